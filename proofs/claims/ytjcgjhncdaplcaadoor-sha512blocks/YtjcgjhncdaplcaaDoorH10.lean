/- alive. -/
import Derived.Test.YtjcgjhncdaplcaaDoorH9
import Derived.Lib.SlBytesConst
set_option linter.unusedVariables false
set_option linter.unusedSimpArgs false
set_option linter.unnecessarySimpa false
namespace Go.Proofs.YtjcgjhncdaplcaaDoor
open Go.RowKit

set_option maxHeartbeats 4000000 in
set_option maxRecDepth 100000 in
theorem alive_s (w : World) (hG : Gl w) : Calls Tryd.prog 17 #[] w fun e w' => e = .returned (.bool true) ∧ Chg w w' [] := by
  have K0 := (Chg.refl w []).alloc (.cells #[.int .u8 97, .int .u8 98, .int .u8 99] 5 (3, 4))
  have hb := heap_alloc_new w (.cells #[.int .u8 97, .int .u8 98, .int .u8 99] 5 (3, 4))
  have S0 : Sl (w.alloc (.cells #[.int .u8 97, .int .u8 98, .int .u8 99] 5 (3, 4))) (.slice (some ⟨w.heap.size, 0, none⟩) 3 3) 3 abc := Or.inr ⟨w.heap.size, 0, 3, rfl, by omega, by omega, by simp,
    fun i hi => by have h3 : i = 0 ∨ i = 1 ∨ i = 2 := by omega
                   rcases h3 with rfl | rfl | rfl <;> decide,
    fun i hi => by have h3 : i = 0 ∨ i = 1 ∨ i = 2 := by omega
                   unfold World.cell?
                   simp only [Nat.zero_add, hb]
                   rcases h3 with rfl | rfl | rfl <;> rfl⟩
  clear hb
  have hcv := Lib.run_convert_bytes_const (P := Tryd.prog) w 22 5 #[.int .u8 97, .int .u8 98, .int .u8 99] 3 3 Tryd.underlying22 Tryd.underlying5
  simp only [List.size_toArray, List.length_cons, List.length_nil, Nat.reduceAdd] at hcv
  go_enter Tryd.func17, Tryd.ntmps17
  go_wp2_with fail
  refine (Sum_s _ 3 abc _ (hG.chg K0 (by simp) (by simp)) S0 (by omega)).mono ?_
  rintro e v1 ⟨rfl, k1⟩
  have D := Blk.new v1 z64 42
  have D1 := D.setRow (yC 64 (sha abc 3))
  have c0 := (D1.cell 0).trans ((yC_get 64 _ 0 (by omega)).trans (by rw [ab0]))
  have c1 := (D1.cell 1).trans ((yC_get 64 _ 1 (by omega)).trans (by rw [ab1]))
  have c2 := (D1.cell 2).trans ((yC_get 64 _ 2 (by omega)).trans (by rw [ab2]))
  have c7 := (D1.cell 7).trans ((yC_get 64 _ 7 (by omega)).trans (by rw [ab7]))
  have c63 := (D1.cell 63).trans ((yC_get 64 _ 63 (by omega)).trans (by rw [ab63]))
  unfold z64 at c0 c1 c2 c7 c63
  go_wp2_with (refine wpList_store_row rfl 42 _ _ rfl v1.heap.size _ rfl rfl 42 _ D (by rw [yC_size]; exact DInfo) (by rw [yC_size]; rfl) (yC_one _ _) ?_)
  go_ret
  exact ⟨rfl, ((K0.trans1 k1).alloc _).setRowNew (K0.trans1 k1).size _⟩
end Go.Proofs.YtjcgjhncdaplcaaDoor
