/- wire: the sum. -/
import Derived.Test.YtgfeopingompdaaGreatDoorW1
import Derived.Test.YtgfeopingompdaaGreatDoorH8
import Derived.Laws.Cover3
set_option linter.unusedVariables false
set_option linter.unusedSimpArgs false
set_option linter.unnecessarySimpa false
namespace Go.Proofs.YtgfeopingompdaaGreatDoor
open Go.RowKit

theorem zero4 : (Tryz.prog.info? 100).bind (·.zero) = some (.agg (yC 4 (fun _ => 0))) := by kernel_rfl
theorem zeroD : (Tryz.prog.info? 145).bind (·.zero) = some (.agg (yC 64 (fun _ => 0))) := by kernel_rfl
theorem s4Info : (Tryz.prog.info? 100).map (·.size) = some 4 := by kernel_rfl
theorem dInfo : (Tryz.prog.info? 145).map (·.size) = some 64 := by kernel_rfl
theorem dig4 {w : World} {g : Nat} {f : Nat → Nat} {T : TypeId} (h : Blk w g (yC 64 f) T) : w.rangeAt g 0 (yL 4 f) := fun j v hv => by
  obtain ⟨hj, rfl⟩ := yL_some _ _ _ _ hv
  rw [Nat.zero_add, h.cell]
  unfold yC
  rw [List.getElem?_toArray, List.getElem?_map, List.getElem?_range (show j < 64 by omega)]
  rfl
set_option maxHeartbeats 4000000 in
set_option maxRecDepth 100000 in
theorem sumOf_s (v : Value) (m : Nat) (f : Nat → Nat) (w : World) (hG : Gl w) (hv : Sl w v m f) (hm : m < 18446744073709551616) :
    Calls Tryz.prog 35 #[v] w fun e w' => e = .returned (.agg (yC 4 (sha f m))) ∧ Chg w w' [] := by
  go_enter Tryz.func35, Tryz.ntmps35
  go_wp2_with (first
    | (with_reducible refine alloc_w rfl 100 rfl (.agg (yC 4 (fun _ => 0))) zero4 (yC 4 (fun _ => 0)) rfl ?_; intro rb w1 hrb BR k1))
  refine (Sum_s v m f w1 (hG.chg k1 (by simp) (by simp)) (hv.chg k1 (Off.nil v)) hm).mono ?_
  rintro e w2 ⟨rfl, k2⟩
  have BR2 := BR.chg k2 (by simp)
  have HK : Hid (w1.heap.size ≤ w2.heap.size) := k2.size
  have HRB : Hid (rb < w2.heap.size) := BR2.lt
  have hat : ∀ g w, (Instr.arrayAt 100 (.slice (some ⟨g, 0, none⟩) 4 64)).run Tryz.prog w = .ok (.pointer (some ⟨g, 0, none⟩)) w := fun g w => run_arrayAt (w := w) 100 _ 4 _ 4 64 Tryz.underlying100 (by omega)
  clear BR
  go_wp2_with (first
    | (with_reducible refine alloc_w rfl 145 rfl (.agg (yC 64 (fun _ => 0))) zeroD (yC 64 (fun _ => 0)) rfl ?_; intro db w3 hdb BD k3)
    | (refine store_w BD rfl 145 _ _ (yC 64 (sha f m)) rfl rfl rfl dInfo rfl (yC_one 64 _) ?_; intro w4 BD4 k4; have hr := dig4 BD4; have BR4 := (BR2.chg k3 (by simp)).chg k4 (by have := HRB.out; simp; omega))
    | (refine wpList_load_mid rfl 100 _ rfl db 0 rfl (yL 4 (sha f m)) _ hr Tryz.underlying100 rfl (by rw [yL_len]; exact s4Info) ?_)
    | (refine store_w BR4 rfl 100 _ _ (yC 4 (sha f m)) rfl rfl rfl s4Info rfl (yC_one 4 _) ?_; intro w5 BR5 k5))
  have C : Chg w w5 [] := ((((k1.trans1 k2).trans1 k3).new k4 (by have := k1.size; have := HK.out; omega))).new k5 hrb
  exact bodyPost_ret (results_cell_row Tryz.results35 _ _ rb 100 (yC 4 (sha f m)) (0, 0) _ rfl BR5 Tryz.underlying100 rfl s4Info) rfl ⟨rfl, C⟩
end Go.Proofs.YtgfeopingompdaaGreatDoor
