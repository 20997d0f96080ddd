/- Powers by no bytes: rimeref01.power, rimeref01.Power, field.Power of nil. -/
import Derived.Test.YtialljmkkichiaaRFun4
set_option linter.unusedVariables false
set_option linter.unusedSimpArgs false
set_option linter.unnecessarySimpa false
namespace Go.Proofs.Ytialljmkkichiaa
open Go.RowKit N

set_option maxHeartbeats 4000000 in
set_option maxRecDepth 100000 in
theorem power_nil (x : Nat) (w : World) : Calls Try.prog 93 #[.agg (dC x), .slice none 0 0] w fun e w' => e = .returned (.agg (dC 1)) ∧ Chg w w' [] := by
  have B1 : Blk (((w.alloc (.cells (dC x) 84)).alloc (.cells z16 84)).alloc (.cells o16 84)) (w.heap.size + 1) z16 84 := by have h := (Blk.new (w.alloc (.cells (dC x) 84)) z16 84).alloc (.cells o16 84); simpa using h
  have B2 : Blk (((w.alloc (.cells (dC x) 84)).alloc (.cells z16 84)).alloc (.cells o16 84)) (w.heap.size + 1 + 1) (dC 1) 84 := Blk.to (by have h := Blk.new ((w.alloc (.cells (dC x) 84)).alloc (.cells z16 84)) o16 84; simpa using h) o16_dC
  have C0 : Chg w (((w.alloc (.cells (dC x) 84)).alloc (.cells z16 84)).alloc (.cells o16 84)) [] := (((Chg.refl w []).alloc _).alloc _).alloc _
  go_enter Try.func93, Try.ntmps93
  go_wp2_with fail
  go_loopw [6] (fun t wr => t = .int .i64 (-1) ∧ Blk wr (w.heap.size + 1) z16 84 ∧ Blk wr (w.heap.size + 1 + 1) (dC 1) 84 ∧ Chg w wr []) (fun t _ => (intOf t + 1).toNat)
  case atStart => exact ⟨rfl, B1, B2, C0⟩
  case round =>
    obtain ⟨rfl, b1, b2, c0⟩ := hrel
    clear B1 B2 C0
    go_wp2_with (first | (refine wpList_load_row rfl 84 _ rfl (w.heap.size + 1 + 1) rfl 84 _ (0, 0) _ b2 Try.underlying84 rfl (nInfo16 _) ?_) | (refine wpList_store_row rfl 84 _ _ rfl (w.heap.size + 1) _ rfl rfl 84 _ b1 (nInfo16 _) rfl (uC_one _ _) ?_))
    exact bodyPost_ret (results_cell_row Try.results93 _ _ (w.heap.size + 1) 84 (dC 1) (0, 0) _ rfl (Blk.setRow b1 _) Try.underlying84 rfl (nInfo16 _)) rfl ⟨rfl, c0.setRowNew (by omega) _⟩

set_option maxHeartbeats 4000000 in
set_option maxRecDepth 100000 in
theorem Power_rnil (a : Int) (ra : R256 a) (w : World) : Calls Try.prog 40 #[fe a, .slice none 0 0] w fun e w' => e = .returned (fe 1) ∧ Chg w w' [] := by
  have F0 : Blk ((w.alloc (.cells (feC a) 24)).alloc (.cells z32 24)) w.heap.size (feC a) 24 := (Blk.new w (feC a) 24).alloc _
  have F2 : Blk ((w.alloc (.cells (feC a) 24)).alloc (.cells z32 24)) (w.heap.size + 1) z32 24 := by have h := Blk.new (w.alloc (.cells (feC a) 24)) z32 24; simpa using h
  have C0 := ((Chg.refl w []).alloc (.cells (feC a) 24)).alloc (.cells z32 24)
  go_enter Try.func40, Try.ntmps40
  go_wp2_with (refine wpList_load_row rfl 24 _ rfl w.heap.size rfl 24 _ (0, 0) _ F0 Try.underlying24 rfl feInfo ?_)
  refine (Value_r a ra _).mono ?_
  rintro e v1 ⟨rfl, k⟩
  replace F2 := F2.chg k (by simp)
  replace C0 := C0.trans1 k
  clear k F0
  go_wp2_with fail
  refine (power_nil (rd a) _).mono ?_
  rintro e v2 ⟨rfl, k⟩
  replace F2 := F2.chg k (by simp)
  replace C0 := C0.trans1 k
  clear k
  go_wp2_with fail
  refine (Back_r 1 _).mono ?_
  rintro e v3 ⟨rfl, k⟩
  replace F2 := F2.chg k (by simp)
  replace C0 := C0.trans1 k
  clear k
  rw [show ((1 : Nat) : Int) = 1 from rfl]
  go_wp2_with (refine wpList_store_row rfl 24 _ _ rfl (w.heap.size + 1) _ rfl rfl 24 _ F2 feInfo rfl (feC_one _) ?_)
  exact bodyPost_ret (results_cell_row Try.results40 _ _ (w.heap.size + 1) 24 (feC 1) (0, 0) _ rfl (Blk.setRow F2 _) Try.underlying24 rfl feInfo) rfl ⟨rfl, C0.setRowNew (by omega) _⟩
end Go.Proofs.Ytialljmkkichiaa
