/- rimelaw02.works: the small example that every law of the layer ends with. -/
import Derived.Test.YtcdgkhejbdlapabCmp
set_option linter.unusedVariables false
set_option linter.unusedSimpArgs false
set_option linter.unnecessarySimpa false
namespace Go.Proofs.Ytcdgkhejbdlapab
open Go.RowKit N

theorem mkZ32 (w : World) : (Instr.makeSlice 34 (.int .i64 32) (.int .i64 32)).run Try.prog w = .ok (.slice (some ⟨w.heap.size, 0, none⟩) 32 32) (w.alloc (.cells z32 5)) := by kernel_rfl
theorem pw_1 (k : Nat) : pw 1 k = 1 := by unfold pw; rw [Int.one_pow]; decide
set_option maxHeartbeats 1000000 in
theorem num_s (a : Int) (w : World) : Calls Try.prog 43 #[.int .i64 a] w fun e w' => e = .returned (.int .i64 a) ∧ w' = w := by
  go_enter Try.func43, Try.ntmps43
  go_wp2
  go_ret
  exact ⟨rfl, rfl⟩

set_option maxHeartbeats 8000000 in
set_option maxRecDepth 100000 in
theorem works_true (w : World) : Calls Try.prog 17 #[] w fun e w' => e = .returned (.bool true) ∧ Chg w w' [] := by
  have hge := feGuard
  have hmk := mkZ32
  have m15 : (3 : Int) * 5 % L = 15 := by decide +kernel
  have ma : (-1 % L + 2) % L = 1 := by decide +kernel
  have r0 : R256 0 := by unfold R256; decide
  have r1 : R256 1 := by unfold R256; decide
  have r2 : R256 2 := by unfold R256; decide
  have r3 : R256 3 := by unfold R256; decide
  have r5 : R256 5 := by unfold R256; decide
  go_enter Try.func17, Try.ntmps17
  go_wp2_with (refine gl_build (by rfl) 23 #[(0, .const (.int .u8 1))] rfl (feC 1) (by kernel_rfl) ?_)
  refine (Invert_not 1 r1 (by decide +kernel) _).mono ?_
  rintro e y1 ⟨rfl, k1⟩
  rw [pw_1]
  have A1 : Blk (y1.alloc (.cells z32 23)) y1.heap.size z32 23 := Blk.new y1 z32 23
  have A2 : Blk ((y1.alloc (.cells z32 23)).setRow y1.heap.size (feC 1)) y1.heap.size (feC 1) 23 := A1.setRow _
  have C2 : Chg w ((y1.alloc (.cells z32 23)).setRow y1.heap.size (feC 1)) [] := (k1.alloc (.cells z32 23)).setRowNew k1.size _
  go_wp2_with (first | (refine wpList_store_row rfl 23 _ _ rfl y1.heap.size _ rfl rfl 23 _ A1 feInfo rfl (feC_one _) ?_) | (refine gl_build (by rfl) 23 #[] rfl (feC 0) (by kernel_rfl) ?_))
  refine (Invert_zero 0 r0 (by decide +kernel) _).mono ?_
  rintro e y2 ⟨rfl, k2⟩
  replace A2 := A2.chg k2 (by simp)
  replace C2 := C2.trans1 k2
  have sz2 := A2.lt
  generalize y1.heap.size = g1 at *
  have B1 : Blk (y2.alloc (.cells z32 23)) y2.heap.size z32 23 := Blk.new y2 z32 23
  replace A2 : Blk ((y2.alloc (.cells z32 23)).setRow y2.heap.size (feC 0)) g1 (feC 1) 23 := (A2.alloc _).setRowOther (by omega) _
  replace C2 : Chg w ((y2.alloc (.cells z32 23)).setRow y2.heap.size (feC 0)) [] := (C2.alloc (.cells z32 23)).setRowNew C2.size _
  clear A1 k1 k2
  go_wp2_with (refine wpList_store_row rfl 23 _ _ rfl y2.heap.size _ rfl rfl 23 _ B1 feInfo rfl (feC_one _) ?_)
  have D0 : Blk (((y2.alloc (.cells z32 23)).setRow y2.heap.size (feC 0)).alloc (.cells z32 5)) (y2.heap.size + 1) z32 5 := by have h := Blk.new ((y2.alloc (.cells z32 23)).setRow y2.heap.size (feC 0)) z32 5; simpa using h
  have D1 : Blk (((y2.alloc (.cells z32 23)).setRow y2.heap.size (feC 0)).alloc (.cells z32 5)) (y2.heap.size + 1) (feC 0) 5 := D0.to z32_fe
  refine (Decode_arr (y2.heap.size + 1) 0 r0 true (by decide +kernel) 5 _ D1).mono ?_
  rintro e y3 ⟨rfl, k3⟩
  replace A2 := (A2.alloc (.cells z32 5)).chg k3 (by simp)
  replace C2 := (C2.alloc (.cells z32 5)).trans1 k3
  have sz3 := A2.lt
  clear B1 D0 D1 k3
  have E1 : Blk (y3.alloc (.cells z32 23)) y3.heap.size z32 23 := Blk.new y3 z32 23
  have E2 : Blk ((y3.alloc (.cells z32 23)).setRow y3.heap.size (feC 0)) y3.heap.size (feC 0) 23 := E1.setRow _
  replace A2 : Blk ((y3.alloc (.cells z32 23)).setRow y3.heap.size (feC 0)) g1 (feC 1) 23 := (A2.alloc _).setRowOther (by omega) _
  replace C2 : Chg w ((y3.alloc (.cells z32 23)).setRow y3.heap.size (feC 0)) [] := (C2.alloc (.cells z32 23)).setRowNew C2.size _
  simp only [if_true]
  go_wp2_with (first | (refine wpList_store_row rfl 23 _ _ rfl y3.heap.size _ rfl rfl 23 _ E1 feInfo rfl (feC_one _) ?_) | (refine gl_build (by rfl) 23 #[(0, .const (.int .u8 3))] rfl (feC 3) (by kernel_rfl) ?_) | (refine gl_build (by rfl) 23 #[(0, .const (.int .u8 5))] rfl (feC 5) (by kernel_rfl) ?_))
  refine (Mul_s 3 5 r3 r5 _).mono ?_
  rintro e y4 ⟨rfl, k4⟩
  rw [m15]
  replace A2 := A2.chg k4 (by simp)
  replace E2 := E2.chg k4 (by simp)
  replace C2 := C2.trans1 k4
  clear k4 E1
  go_wp2_with (refine gl_build (by rfl) 23 #[(0, .const (.int .u8 15))] rfl (feC 15) (by kernel_rfl) ?_)
  refine (num_s _ _).mono ?_
  rintro e y5 ⟨rfl, rfl⟩
  go_wp2_with (first | (refine gl_load (by rfl) 23 _ rfl g1 rfl 23 (feC 1) _ A2 Try.underlying23 rfl feInfo ?_) | (refine gl_build (by rfl) 23 #[(0, .const (.int .u8 1))] rfl (feC 1) (by kernel_rfl) ?_))
  refine (num_s _ _).mono ?_
  rintro e y5 ⟨rfl, rfl⟩
  go_wp2_with fail
  refine (num_s _ _).mono ?_
  rintro e y5 ⟨rfl, rfl⟩
  go_wp2_with (first | (refine gl_load (by rfl) 23 _ rfl y3.heap.size rfl 23 (feC 0) _ E2 Try.underlying23 rfl feInfo ?_) | (refine gl_build (by rfl) 23 #[] rfl (feC 0) (by kernel_rfl) ?_) | (refine gl_build (by rfl) 23 #[(0, .const (.int .u8 1))] rfl (feC 1) (by kernel_rfl) ?_))
  refine (Neg_s 1 r1 _).mono ?_
  rintro e y6 ⟨rfl, k6⟩
  replace C2 := C2.trans1 k6
  go_wp2_with (refine gl_build (by rfl) 23 #[(0, .const (.int .u8 2))] rfl (feC 2) (by kernel_rfl) ?_)
  refine (Add_s _ 2 (r256_mod _) r2 _).mono ?_
  rintro e y7 ⟨rfl, k7⟩
  rw [ma]
  replace C2 := C2.trans1 k7
  go_wp2_with (refine gl_build (by rfl) 23 #[(0, .const (.int .u8 1))] rfl (feC 1) (by kernel_rfl) ?_)
  go_ret
  exact ⟨rfl, C2⟩
end Go.Proofs.Ytcdgkhejbdlapab
