/- sha512.Compress of 128 bytes. -/
import Derived.Test.YtjcgjhncdaplcaaDoorH11a
set_option linter.unusedVariables false
set_option linter.unusedSimpArgs false
set_option linter.unnecessarySimpa false
namespace Go.Proofs.YtjcgjhncdaplcaaDoor
open Go.RowKit

set_option maxHeartbeats 4000000 in
set_option maxRecDepth 100000 in
theorem Compress_s (g o c : Nat) (s b : Nat → Nat) (w : World) (hG : Gl w) (hs : ∀ i, i < 8 → U (s i)) (hc : 128 ≤ c) (hc2 : c ≤ 9223372036854775807) (hb : Bs w g o 128 b) :
    Calls Tryd.prog 18 #[.agg (vC 8 s), .slice (some ⟨g, o, none⟩) 128 c] w fun e w' => e = .returned (.tuple #[.agg (vC 8 (cmp KK s b)), .int .i64 0]) ∧ Chg w w' [] := by
  have hl := hG.lt
  have hgl := hb.lt
  have K0 := ((Chg.refl w []).alloc (.cells (vC 8 s) 53)).alloc (.cells z8 53)
  have F0 : Blk ((w.alloc (.cells (vC 8 s) 53)).alloc (.cells z8 53)) w.heap.size (vC 8 s ++ #[]) 53 := ((Blk.new w (vC 8 s) 53).alloc (.cells z8 53)).to (by simp)
  have F1 : Blk ((w.alloc (.cells (vC 8 s) 53)).alloc (.cells z8 53)) (w.heap.size + 1) z8 53 := by have q := Blk.new (w.alloc (.cells (vC 8 s) 53)) z8 53; simpa using q
  go_enter Tryd.func18, Tryd.ntmps18
  go_wp2_with fail
  refine (compress_s w.heap.size g o c KK s b #[] 53 _ hc hc2 ((hG.chg K0 (by simp) (by simp)).kc) hs (hb.chg K0 (by simp)) F0 (by omega)).mono ?_
  rintro e v1 ⟨rfl, B1, k1⟩
  rw [Array.append_empty] at B1
  replace F1 := F1.chg k1 (by simp)
  replace K0 := K0.trans k1 (by simp)
  go_wp2_with (first | (refine wpList_load_row rfl 53 _ rfl w.heap.size rfl 53 _ (0, 0) _ B1 Tryd.underlying53 rfl (by rw [vC_size]; exact S8Info) ?_) | (refine wpList_store_row rfl 53 _ _ rfl (w.heap.size + 1) _ rfl rfl 53 _ F1 (by rw [vC_size]; exact S8Info) (by rw [vC_size]; rfl) (vC_one _ _) ?_))
  exact bodyPost_ret (results_cell_tmp Tryd.results18 _ _ (w.heap.size + 1) 53 (vC 8 (cmp KK s b)) _ _ rfl rfl (F1.setRow _) Tryd.underlying53 rfl (by rw [vC_size]; exact S8Info)) rfl ⟨rfl, K0.setRowNew (by omega) _⟩
end Go.Proofs.YtjcgjhncdaplcaaDoor
