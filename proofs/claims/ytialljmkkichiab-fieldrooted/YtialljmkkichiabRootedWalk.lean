/- FieldRooted: the walk, in each of its four cases. -/
import Derived.Test.YtialljmkkichiabRoots
set_option linter.unusedVariables false
set_option linter.unusedSimpArgs false
set_option linter.unnecessarySimpa false
namespace Go.Proofs.Ytialljmkkichiab
open Go.RowKit N

/-! The calls, with their answers under names. -/
def ml' (a b : Int) : Int := a * b % P
def sq' (a : Int) : Int := a * a % P
def ng' (a : Int) : Int := -a % P
theorem rC0 : R256 0 := by unfold R256; decide
theorem rC1 : R256 1 := by unfold R256; decide
theorem Mul_p (a b : Int) (ra : R256 a) (rb : R256 b) (w : World) : Calls Try.prog 14 #[fe a, fe b] w fun e w' => e = .returned (fe (ml' a b)) ∧ Chg w w' [] := Mul_fe a b ra rb w
theorem Square_p (a : Int) (ra : R256 a) (w : World) : Calls Try.prog 24 #[fe a] w fun e w' => e = .returned (fe (sq' a)) ∧ Chg w w' [] := Square_fe a ra w
theorem Neg_p (a : Int) (ra : R256 a) (w : World) : Calls Try.prog 13 #[fe a] w fun e w' => e = .returned (fe (ng' a)) ∧ Chg w w' [] := Neg_fe a ra w
theorem Equal_p (a b : Int) (ra : R256 a) (rb : R256 b) (t : Bool) (h : eqf (a % P) (b % P) = t) (w : World) :
    Calls Try.prog 15 #[fe a, fe b] w fun e w' => e = .returned (.bool t) ∧ Chg w w' [] := by
  rw [← h]
  exact Equal_fe a b ra rb w
theorem IsNeg_p (a : Int) (ra : R256 a) (t : Bool) (h : (a % P % 2 == 1) = t) (w : World) :
    Calls Try.prog 22 #[fe a] w fun e w' => e = .returned (.bool t) ∧ Chg w w' [] := by
  rw [← h]
  exact IsNegative_fe a ra w
theorem Canon_p (a : Int) (ra : R256 a) (t : Bool) (h : eqf a (a % P) = t) (w : World) :
    Calls Try.prog 23 #[fe a] w fun e w' => e = .returned (.bool t) ∧ Chg w w' [] := by
  rw [← h]
  exact Canonical_fe a ra w
theorem Sqrt_p (u v : Int) (ru : R256 u) (rv : R256 v) (r : Int) (t : Bool) (hr : r = ab (rootf u v)) (ht : okf u v = t) (w : World) :
    Calls Try.prog 21 #[fe u, fe v] w fun e w' => e = .returned (.tuple #[fe r, .bool t]) ∧ Chg w w' [] := by
  rw [hr, ← ht]
  exact SqrtRatio_fe u v ru rv w

set_option maxHeartbeats 16000000 in
set_option maxRecDepth 100000 in
theorem rooted_v0u0 (u v r : Int) (ru : R256 u) (rv : R256 v) (hr : Hid (r = ab (rootf u v))) (ht : Hid (okf u v = true)) (rr : R256 r) (n0 : Hid ((r % P % 2 == 1) = false)) (n1 : Hid (eqf r (r % P) = true)) (n2 : eqf (sq' S1) (ng' 1) = true) (n3 : Hid (eqf (v % P) (0 % P) = true)) (n4 : eqf r 0 = true) (n5 : Hid (eqf (u % P) (0 % P) = true)) (w : World) :
    Calls Try.prog 5 #[fe u, fe v] w fun e w' => e = .returned (.bool true) ∧ Chg w w' [] := by
  have hge := feGuard
  have rs := r256_S1
  have F0 : Blk ((w.alloc (.cells (feC u) 23)).alloc (.cells (feC v) 23)) w.heap.size (feC u) 23 := (Blk.new w (feC u) 23).alloc _
  have F1 : Blk ((w.alloc (.cells (feC u) 23)).alloc (.cells (feC v) 23)) (w.heap.size + 1) (feC v) 23 := by have h := Blk.new (w.alloc (.cells (feC u) 23)) (feC v) 23; simpa using h
  have CC : Chg w ((w.alloc (.cells (feC u) 23)).alloc (.cells (feC v) 23)) [] := ((Chg.refl w []).alloc (.cells (feC u) 23)).alloc (.cells (feC v) 23)
  go_enter Try.func5, Try.ntmps5
  go_wp2_with fail
  refine (alive_true _).mono ?_
  rintro e y1 ⟨rfl, k⟩
  replace F0 := F0.chg k (by simp)
  replace F1 := F1.chg k (by simp)
  replace CC := CC.trans1 k
  clear k
  go_wp2_with (first | (refine gl_load (by rfl) 23 _ rfl w.heap.size rfl 23 (feC u) _ F0 Try.underlying23 rfl feInfo ?_) | (refine gl_load (by rfl) 23 _ rfl (w.heap.size + 1) rfl 23 (feC v) _ F1 Try.underlying23 rfl feInfo ?_) | (refine gl_build (by rfl) 23 #[] rfl (feC 0) (by kernel_rfl) ?_) | (refine gl_build (by rfl) 23 #[(0, .const (.int .u8 1))] rfl (feC 1) (by kernel_rfl) ?_))
  refine (Sqrt_p u v ru rv r true hr.out ht.out _).mono ?_
  rintro e y2 ⟨rfl, k⟩
  replace F0 := F0.chg k (by simp)
  replace F1 := F1.chg k (by simp)
  replace CC := CC.trans1 k
  clear k
  have sz : w.heap.size + 1 < y2.heap.size := F1.lt
  have A1 : Blk (y2.alloc (.cells z32 23)) y2.heap.size z32 23 := Blk.new y2 z32 23
  have B0 : Blk ((y2.alloc (.cells z32 23)).setRow y2.heap.size (feC r)) w.heap.size (feC u) 23 := (F0.alloc _).setRowOther (by omega) _
  have B1 : Blk ((y2.alloc (.cells z32 23)).setRow y2.heap.size (feC r)) (w.heap.size + 1) (feC v) 23 := (F1.alloc _).setRowOther (by omega) _
  have B5 : Blk ((y2.alloc (.cells z32 23)).setRow y2.heap.size (feC r)) y2.heap.size (feC r) 23 := A1.setRow _
  have CD : Chg w ((y2.alloc (.cells z32 23)).setRow y2.heap.size (feC r)) [] := (CC.alloc (.cells z32 23)).setRowNew CC.size _
  go_wp2_with (first | (refine wpList_store_row rfl 23 _ _ rfl y2.heap.size _ rfl rfl 23 _ A1 feInfo rfl (feC_one _) ?_) | (refine gl_load (by rfl) 23 _ rfl y2.heap.size rfl 23 (feC r) _ B5 Try.underlying23 rfl feInfo ?_))
  clear F0 F1 CC
  have F0 := B0
  have F1 := B1
  have F5 := B5
  have CC := CD
  clear B0 B1 B5 CD A1
  obtain ⟨g5, hg5⟩ : ∃ g, g = y2.heap.size := ⟨_, rfl⟩
  replace hg5 : Hid (g5 = y2.heap.size) := hg5
  clear hg5 g5
  refine (IsNeg_p r rr false n0.out _).mono ?_
  rintro e y3 ⟨rfl, k⟩
  replace F0 := F0.chg k (by simp)
  replace F1 := F1.chg k (by simp)
  replace F5 := F5.chg k (by simp)
  replace CC := CC.trans1 k
  clear k
  go_wp2_with (first | (refine gl_load (by rfl) 23 _ rfl w.heap.size rfl 23 (feC u) _ F0 Try.underlying23 rfl feInfo ?_) | (refine gl_load (by rfl) 23 _ rfl (w.heap.size + 1) rfl 23 (feC v) _ F1 Try.underlying23 rfl feInfo ?_) | (refine gl_load (by rfl) 23 _ rfl y2.heap.size rfl 23 (feC r) _ F5 Try.underlying23 rfl feInfo ?_) | (refine gl_build (by rfl) 23 #[] rfl (feC 0) (by kernel_rfl) ?_) | (refine gl_build (by rfl) 23 #[(0, .const (.int .u8 1))] rfl (feC 1) (by kernel_rfl) ?_))
  refine (Canon_p r rr true n1.out _).mono ?_
  rintro e y4 ⟨rfl, k⟩
  replace F0 := F0.chg k (by simp)
  replace F1 := F1.chg k (by simp)
  replace F5 := F5.chg k (by simp)
  replace CC := CC.trans1 k
  clear k
  go_wp2_with (first | (refine gl_load (by rfl) 23 _ rfl w.heap.size rfl 23 (feC u) _ F0 Try.underlying23 rfl feInfo ?_) | (refine gl_load (by rfl) 23 _ rfl (w.heap.size + 1) rfl 23 (feC v) _ F1 Try.underlying23 rfl feInfo ?_) | (refine gl_load (by rfl) 23 _ rfl y2.heap.size rfl 23 (feC r) _ F5 Try.underlying23 rfl feInfo ?_) | (refine gl_build (by rfl) 23 #[] rfl (feC 0) (by kernel_rfl) ?_) | (refine gl_build (by rfl) 23 #[(0, .const (.int .u8 1))] rfl (feC 1) (by kernel_rfl) ?_))
  refine (SqrtM1_fe _).mono ?_
  rintro e y5 ⟨rfl, k⟩
  replace F0 := F0.chg k (by simp)
  replace F1 := F1.chg k (by simp)
  replace F5 := F5.chg k (by simp)
  replace CC := CC.trans1 k
  clear k
  go_wp2_with (first | (refine gl_load (by rfl) 23 _ rfl w.heap.size rfl 23 (feC u) _ F0 Try.underlying23 rfl feInfo ?_) | (refine gl_load (by rfl) 23 _ rfl (w.heap.size + 1) rfl 23 (feC v) _ F1 Try.underlying23 rfl feInfo ?_) | (refine gl_load (by rfl) 23 _ rfl y2.heap.size rfl 23 (feC r) _ F5 Try.underlying23 rfl feInfo ?_) | (refine gl_build (by rfl) 23 #[] rfl (feC 0) (by kernel_rfl) ?_) | (refine gl_build (by rfl) 23 #[(0, .const (.int .u8 1))] rfl (feC 1) (by kernel_rfl) ?_))
  refine (Square_p S1 rs _).mono ?_
  rintro e y6 ⟨rfl, k⟩
  replace F0 := F0.chg k (by simp)
  replace F1 := F1.chg k (by simp)
  replace F5 := F5.chg k (by simp)
  replace CC := CC.trans1 k
  clear k
  go_wp2_with (first | (refine gl_load (by rfl) 23 _ rfl w.heap.size rfl 23 (feC u) _ F0 Try.underlying23 rfl feInfo ?_) | (refine gl_load (by rfl) 23 _ rfl (w.heap.size + 1) rfl 23 (feC v) _ F1 Try.underlying23 rfl feInfo ?_) | (refine gl_load (by rfl) 23 _ rfl y2.heap.size rfl 23 (feC r) _ F5 Try.underlying23 rfl feInfo ?_) | (refine gl_build (by rfl) 23 #[] rfl (feC 0) (by kernel_rfl) ?_) | (refine gl_build (by rfl) 23 #[(0, .const (.int .u8 1))] rfl (feC 1) (by kernel_rfl) ?_))
  refine (Neg_p 1 rC1 _).mono ?_
  rintro e y7 ⟨rfl, k⟩
  replace F0 := F0.chg k (by simp)
  replace F1 := F1.chg k (by simp)
  replace F5 := F5.chg k (by simp)
  replace CC := CC.trans1 k
  clear k
  go_wp2_with (first | (refine gl_load (by rfl) 23 _ rfl w.heap.size rfl 23 (feC u) _ F0 Try.underlying23 rfl feInfo ?_) | (refine gl_load (by rfl) 23 _ rfl (w.heap.size + 1) rfl 23 (feC v) _ F1 Try.underlying23 rfl feInfo ?_) | (refine gl_load (by rfl) 23 _ rfl y2.heap.size rfl 23 (feC r) _ F5 Try.underlying23 rfl feInfo ?_) | (refine gl_build (by rfl) 23 #[] rfl (feC 0) (by kernel_rfl) ?_) | (refine gl_build (by rfl) 23 #[(0, .const (.int .u8 1))] rfl (feC 1) (by kernel_rfl) ?_))
  refine (Equal_p v 0 rv rC0 true n3.out _).mono ?_
  rintro e y8 ⟨rfl, k⟩
  replace F0 := F0.chg k (by simp)
  replace F1 := F1.chg k (by simp)
  replace F5 := F5.chg k (by simp)
  replace CC := CC.trans1 k
  clear k
  go_wp2_with (first | (refine gl_load (by rfl) 23 _ rfl w.heap.size rfl 23 (feC u) _ F0 Try.underlying23 rfl feInfo ?_) | (refine gl_load (by rfl) 23 _ rfl (w.heap.size + 1) rfl 23 (feC v) _ F1 Try.underlying23 rfl feInfo ?_) | (refine gl_load (by rfl) 23 _ rfl y2.heap.size rfl 23 (feC r) _ F5 Try.underlying23 rfl feInfo ?_) | (refine gl_build (by rfl) 23 #[] rfl (feC 0) (by kernel_rfl) ?_) | (refine gl_build (by rfl) 23 #[(0, .const (.int .u8 1))] rfl (feC 1) (by kernel_rfl) ?_))
  refine (Equal_p u 0 ru rC0 true n5.out _).mono ?_
  rintro e y9 ⟨rfl, k⟩
  replace F0 := F0.chg k (by simp)
  replace F1 := F1.chg k (by simp)
  replace F5 := F5.chg k (by simp)
  replace CC := CC.trans1 k
  clear k
  go_wp2
  go_ret
  exact ⟨rfl, CC⟩

set_option maxHeartbeats 16000000 in
set_option maxRecDepth 100000 in
theorem rooted_v0u1 (u v r : Int) (ru : R256 u) (rv : R256 v) (hr : Hid (r = ab (rootf u v))) (ht : Hid (okf u v = false)) (rr : R256 r) (n0 : Hid ((r % P % 2 == 1) = false)) (n1 : Hid (eqf r (r % P) = true)) (n2 : eqf (sq' S1) (ng' 1) = true) (n3 : Hid (eqf (v % P) (0 % P) = true)) (n4 : eqf r 0 = true) (n5 : Hid (eqf (u % P) (0 % P) = false)) (w : World) :
    Calls Try.prog 5 #[fe u, fe v] w fun e w' => e = .returned (.bool true) ∧ Chg w w' [] := by
  have hge := feGuard
  have rs := r256_S1
  have F0 : Blk ((w.alloc (.cells (feC u) 23)).alloc (.cells (feC v) 23)) w.heap.size (feC u) 23 := (Blk.new w (feC u) 23).alloc _
  have F1 : Blk ((w.alloc (.cells (feC u) 23)).alloc (.cells (feC v) 23)) (w.heap.size + 1) (feC v) 23 := by have h := Blk.new (w.alloc (.cells (feC u) 23)) (feC v) 23; simpa using h
  have CC : Chg w ((w.alloc (.cells (feC u) 23)).alloc (.cells (feC v) 23)) [] := ((Chg.refl w []).alloc (.cells (feC u) 23)).alloc (.cells (feC v) 23)
  go_enter Try.func5, Try.ntmps5
  go_wp2_with fail
  refine (alive_true _).mono ?_
  rintro e y1 ⟨rfl, k⟩
  replace F0 := F0.chg k (by simp)
  replace F1 := F1.chg k (by simp)
  replace CC := CC.trans1 k
  clear k
  go_wp2_with (first | (refine gl_load (by rfl) 23 _ rfl w.heap.size rfl 23 (feC u) _ F0 Try.underlying23 rfl feInfo ?_) | (refine gl_load (by rfl) 23 _ rfl (w.heap.size + 1) rfl 23 (feC v) _ F1 Try.underlying23 rfl feInfo ?_) | (refine gl_build (by rfl) 23 #[] rfl (feC 0) (by kernel_rfl) ?_) | (refine gl_build (by rfl) 23 #[(0, .const (.int .u8 1))] rfl (feC 1) (by kernel_rfl) ?_))
  refine (Sqrt_p u v ru rv r false hr.out ht.out _).mono ?_
  rintro e y2 ⟨rfl, k⟩
  replace F0 := F0.chg k (by simp)
  replace F1 := F1.chg k (by simp)
  replace CC := CC.trans1 k
  clear k
  have sz : w.heap.size + 1 < y2.heap.size := F1.lt
  have A1 : Blk (y2.alloc (.cells z32 23)) y2.heap.size z32 23 := Blk.new y2 z32 23
  have B0 : Blk ((y2.alloc (.cells z32 23)).setRow y2.heap.size (feC r)) w.heap.size (feC u) 23 := (F0.alloc _).setRowOther (by omega) _
  have B1 : Blk ((y2.alloc (.cells z32 23)).setRow y2.heap.size (feC r)) (w.heap.size + 1) (feC v) 23 := (F1.alloc _).setRowOther (by omega) _
  have B5 : Blk ((y2.alloc (.cells z32 23)).setRow y2.heap.size (feC r)) y2.heap.size (feC r) 23 := A1.setRow _
  have CD : Chg w ((y2.alloc (.cells z32 23)).setRow y2.heap.size (feC r)) [] := (CC.alloc (.cells z32 23)).setRowNew CC.size _
  go_wp2_with (first | (refine wpList_store_row rfl 23 _ _ rfl y2.heap.size _ rfl rfl 23 _ A1 feInfo rfl (feC_one _) ?_) | (refine gl_load (by rfl) 23 _ rfl y2.heap.size rfl 23 (feC r) _ B5 Try.underlying23 rfl feInfo ?_))
  clear F0 F1 CC
  have F0 := B0
  have F1 := B1
  have F5 := B5
  have CC := CD
  clear B0 B1 B5 CD A1
  obtain ⟨g5, hg5⟩ : ∃ g, g = y2.heap.size := ⟨_, rfl⟩
  replace hg5 : Hid (g5 = y2.heap.size) := hg5
  clear hg5 g5
  refine (IsNeg_p r rr false n0.out _).mono ?_
  rintro e y3 ⟨rfl, k⟩
  replace F0 := F0.chg k (by simp)
  replace F1 := F1.chg k (by simp)
  replace F5 := F5.chg k (by simp)
  replace CC := CC.trans1 k
  clear k
  go_wp2_with (first | (refine gl_load (by rfl) 23 _ rfl w.heap.size rfl 23 (feC u) _ F0 Try.underlying23 rfl feInfo ?_) | (refine gl_load (by rfl) 23 _ rfl (w.heap.size + 1) rfl 23 (feC v) _ F1 Try.underlying23 rfl feInfo ?_) | (refine gl_load (by rfl) 23 _ rfl y2.heap.size rfl 23 (feC r) _ F5 Try.underlying23 rfl feInfo ?_) | (refine gl_build (by rfl) 23 #[] rfl (feC 0) (by kernel_rfl) ?_) | (refine gl_build (by rfl) 23 #[(0, .const (.int .u8 1))] rfl (feC 1) (by kernel_rfl) ?_))
  refine (Canon_p r rr true n1.out _).mono ?_
  rintro e y4 ⟨rfl, k⟩
  replace F0 := F0.chg k (by simp)
  replace F1 := F1.chg k (by simp)
  replace F5 := F5.chg k (by simp)
  replace CC := CC.trans1 k
  clear k
  go_wp2_with (first | (refine gl_load (by rfl) 23 _ rfl w.heap.size rfl 23 (feC u) _ F0 Try.underlying23 rfl feInfo ?_) | (refine gl_load (by rfl) 23 _ rfl (w.heap.size + 1) rfl 23 (feC v) _ F1 Try.underlying23 rfl feInfo ?_) | (refine gl_load (by rfl) 23 _ rfl y2.heap.size rfl 23 (feC r) _ F5 Try.underlying23 rfl feInfo ?_) | (refine gl_build (by rfl) 23 #[] rfl (feC 0) (by kernel_rfl) ?_) | (refine gl_build (by rfl) 23 #[(0, .const (.int .u8 1))] rfl (feC 1) (by kernel_rfl) ?_))
  refine (SqrtM1_fe _).mono ?_
  rintro e y5 ⟨rfl, k⟩
  replace F0 := F0.chg k (by simp)
  replace F1 := F1.chg k (by simp)
  replace F5 := F5.chg k (by simp)
  replace CC := CC.trans1 k
  clear k
  go_wp2_with (first | (refine gl_load (by rfl) 23 _ rfl w.heap.size rfl 23 (feC u) _ F0 Try.underlying23 rfl feInfo ?_) | (refine gl_load (by rfl) 23 _ rfl (w.heap.size + 1) rfl 23 (feC v) _ F1 Try.underlying23 rfl feInfo ?_) | (refine gl_load (by rfl) 23 _ rfl y2.heap.size rfl 23 (feC r) _ F5 Try.underlying23 rfl feInfo ?_) | (refine gl_build (by rfl) 23 #[] rfl (feC 0) (by kernel_rfl) ?_) | (refine gl_build (by rfl) 23 #[(0, .const (.int .u8 1))] rfl (feC 1) (by kernel_rfl) ?_))
  refine (Square_p S1 rs _).mono ?_
  rintro e y6 ⟨rfl, k⟩
  replace F0 := F0.chg k (by simp)
  replace F1 := F1.chg k (by simp)
  replace F5 := F5.chg k (by simp)
  replace CC := CC.trans1 k
  clear k
  go_wp2_with (first | (refine gl_load (by rfl) 23 _ rfl w.heap.size rfl 23 (feC u) _ F0 Try.underlying23 rfl feInfo ?_) | (refine gl_load (by rfl) 23 _ rfl (w.heap.size + 1) rfl 23 (feC v) _ F1 Try.underlying23 rfl feInfo ?_) | (refine gl_load (by rfl) 23 _ rfl y2.heap.size rfl 23 (feC r) _ F5 Try.underlying23 rfl feInfo ?_) | (refine gl_build (by rfl) 23 #[] rfl (feC 0) (by kernel_rfl) ?_) | (refine gl_build (by rfl) 23 #[(0, .const (.int .u8 1))] rfl (feC 1) (by kernel_rfl) ?_))
  refine (Neg_p 1 rC1 _).mono ?_
  rintro e y7 ⟨rfl, k⟩
  replace F0 := F0.chg k (by simp)
  replace F1 := F1.chg k (by simp)
  replace F5 := F5.chg k (by simp)
  replace CC := CC.trans1 k
  clear k
  go_wp2_with (first | (refine gl_load (by rfl) 23 _ rfl w.heap.size rfl 23 (feC u) _ F0 Try.underlying23 rfl feInfo ?_) | (refine gl_load (by rfl) 23 _ rfl (w.heap.size + 1) rfl 23 (feC v) _ F1 Try.underlying23 rfl feInfo ?_) | (refine gl_load (by rfl) 23 _ rfl y2.heap.size rfl 23 (feC r) _ F5 Try.underlying23 rfl feInfo ?_) | (refine gl_build (by rfl) 23 #[] rfl (feC 0) (by kernel_rfl) ?_) | (refine gl_build (by rfl) 23 #[(0, .const (.int .u8 1))] rfl (feC 1) (by kernel_rfl) ?_))
  refine (Equal_p v 0 rv rC0 true n3.out _).mono ?_
  rintro e y8 ⟨rfl, k⟩
  replace F0 := F0.chg k (by simp)
  replace F1 := F1.chg k (by simp)
  replace F5 := F5.chg k (by simp)
  replace CC := CC.trans1 k
  clear k
  go_wp2_with (first | (refine gl_load (by rfl) 23 _ rfl w.heap.size rfl 23 (feC u) _ F0 Try.underlying23 rfl feInfo ?_) | (refine gl_load (by rfl) 23 _ rfl (w.heap.size + 1) rfl 23 (feC v) _ F1 Try.underlying23 rfl feInfo ?_) | (refine gl_load (by rfl) 23 _ rfl y2.heap.size rfl 23 (feC r) _ F5 Try.underlying23 rfl feInfo ?_) | (refine gl_build (by rfl) 23 #[] rfl (feC 0) (by kernel_rfl) ?_) | (refine gl_build (by rfl) 23 #[(0, .const (.int .u8 1))] rfl (feC 1) (by kernel_rfl) ?_))
  refine (Equal_p u 0 ru rC0 false n5.out _).mono ?_
  rintro e y9 ⟨rfl, k⟩
  replace F0 := F0.chg k (by simp)
  replace F1 := F1.chg k (by simp)
  replace F5 := F5.chg k (by simp)
  replace CC := CC.trans1 k
  clear k
  go_wp2
  go_ret
  exact ⟨rfl, CC⟩

set_option maxHeartbeats 16000000 in
set_option maxRecDepth 100000 in
theorem rooted_ok (u v r : Int) (ru : R256 u) (rv : R256 v) (hr : Hid (r = ab (rootf u v))) (ht : Hid (okf u v = true)) (rr : R256 r) (n0 : Hid ((r % P % 2 == 1) = false)) (n1 : Hid (eqf r (r % P) = true)) (n2 : eqf (sq' S1) (ng' 1) = true) (n3 : Hid (eqf (v % P) (0 % P) = false)) (n4 : Hid (eqf (ml' (sq' r) v % P) (u % P) = true)) (lg : Int) (n5 : Hid (lg = leg (ml' u v))) (n6 : 0 ≤ lg) (w : World) :
    Calls Try.prog 5 #[fe u, fe v] w fun e w' => e = .returned (.bool true) ∧ Chg w w' [] := by
  have hge := feGuard
  have rs := r256_S1
  have F0 : Blk ((w.alloc (.cells (feC u) 23)).alloc (.cells (feC v) 23)) w.heap.size (feC u) 23 := (Blk.new w (feC u) 23).alloc _
  have F1 : Blk ((w.alloc (.cells (feC u) 23)).alloc (.cells (feC v) 23)) (w.heap.size + 1) (feC v) 23 := by have h := Blk.new (w.alloc (.cells (feC u) 23)) (feC v) 23; simpa using h
  have CC : Chg w ((w.alloc (.cells (feC u) 23)).alloc (.cells (feC v) 23)) [] := ((Chg.refl w []).alloc (.cells (feC u) 23)).alloc (.cells (feC v) 23)
  go_enter Try.func5, Try.ntmps5
  go_wp2_with fail
  refine (alive_true _).mono ?_
  rintro e y1 ⟨rfl, k⟩
  replace F0 := F0.chg k (by simp)
  replace F1 := F1.chg k (by simp)
  replace CC := CC.trans1 k
  clear k
  go_wp2_with (first | (refine gl_load (by rfl) 23 _ rfl w.heap.size rfl 23 (feC u) _ F0 Try.underlying23 rfl feInfo ?_) | (refine gl_load (by rfl) 23 _ rfl (w.heap.size + 1) rfl 23 (feC v) _ F1 Try.underlying23 rfl feInfo ?_) | (refine gl_build (by rfl) 23 #[] rfl (feC 0) (by kernel_rfl) ?_) | (refine gl_build (by rfl) 23 #[(0, .const (.int .u8 1))] rfl (feC 1) (by kernel_rfl) ?_))
  refine (Sqrt_p u v ru rv r true hr.out ht.out _).mono ?_
  rintro e y2 ⟨rfl, k⟩
  replace F0 := F0.chg k (by simp)
  replace F1 := F1.chg k (by simp)
  replace CC := CC.trans1 k
  clear k
  have sz : w.heap.size + 1 < y2.heap.size := F1.lt
  have A1 : Blk (y2.alloc (.cells z32 23)) y2.heap.size z32 23 := Blk.new y2 z32 23
  have B0 : Blk ((y2.alloc (.cells z32 23)).setRow y2.heap.size (feC r)) w.heap.size (feC u) 23 := (F0.alloc _).setRowOther (by omega) _
  have B1 : Blk ((y2.alloc (.cells z32 23)).setRow y2.heap.size (feC r)) (w.heap.size + 1) (feC v) 23 := (F1.alloc _).setRowOther (by omega) _
  have B5 : Blk ((y2.alloc (.cells z32 23)).setRow y2.heap.size (feC r)) y2.heap.size (feC r) 23 := A1.setRow _
  have CD : Chg w ((y2.alloc (.cells z32 23)).setRow y2.heap.size (feC r)) [] := (CC.alloc (.cells z32 23)).setRowNew CC.size _
  go_wp2_with (first | (refine wpList_store_row rfl 23 _ _ rfl y2.heap.size _ rfl rfl 23 _ A1 feInfo rfl (feC_one _) ?_) | (refine gl_load (by rfl) 23 _ rfl y2.heap.size rfl 23 (feC r) _ B5 Try.underlying23 rfl feInfo ?_))
  clear F0 F1 CC
  have F0 := B0
  have F1 := B1
  have F5 := B5
  have CC := CD
  clear B0 B1 B5 CD A1
  obtain ⟨g5, hg5⟩ : ∃ g, g = y2.heap.size := ⟨_, rfl⟩
  replace hg5 : Hid (g5 = y2.heap.size) := hg5
  clear hg5 g5
  refine (IsNeg_p r rr false n0.out _).mono ?_
  rintro e y3 ⟨rfl, k⟩
  replace F0 := F0.chg k (by simp)
  replace F1 := F1.chg k (by simp)
  replace F5 := F5.chg k (by simp)
  replace CC := CC.trans1 k
  clear k
  go_wp2_with (first | (refine gl_load (by rfl) 23 _ rfl w.heap.size rfl 23 (feC u) _ F0 Try.underlying23 rfl feInfo ?_) | (refine gl_load (by rfl) 23 _ rfl (w.heap.size + 1) rfl 23 (feC v) _ F1 Try.underlying23 rfl feInfo ?_) | (refine gl_load (by rfl) 23 _ rfl y2.heap.size rfl 23 (feC r) _ F5 Try.underlying23 rfl feInfo ?_) | (refine gl_build (by rfl) 23 #[] rfl (feC 0) (by kernel_rfl) ?_) | (refine gl_build (by rfl) 23 #[(0, .const (.int .u8 1))] rfl (feC 1) (by kernel_rfl) ?_))
  refine (Canon_p r rr true n1.out _).mono ?_
  rintro e y4 ⟨rfl, k⟩
  replace F0 := F0.chg k (by simp)
  replace F1 := F1.chg k (by simp)
  replace F5 := F5.chg k (by simp)
  replace CC := CC.trans1 k
  clear k
  go_wp2_with (first | (refine gl_load (by rfl) 23 _ rfl w.heap.size rfl 23 (feC u) _ F0 Try.underlying23 rfl feInfo ?_) | (refine gl_load (by rfl) 23 _ rfl (w.heap.size + 1) rfl 23 (feC v) _ F1 Try.underlying23 rfl feInfo ?_) | (refine gl_load (by rfl) 23 _ rfl y2.heap.size rfl 23 (feC r) _ F5 Try.underlying23 rfl feInfo ?_) | (refine gl_build (by rfl) 23 #[] rfl (feC 0) (by kernel_rfl) ?_) | (refine gl_build (by rfl) 23 #[(0, .const (.int .u8 1))] rfl (feC 1) (by kernel_rfl) ?_))
  refine (SqrtM1_fe _).mono ?_
  rintro e y5 ⟨rfl, k⟩
  replace F0 := F0.chg k (by simp)
  replace F1 := F1.chg k (by simp)
  replace F5 := F5.chg k (by simp)
  replace CC := CC.trans1 k
  clear k
  go_wp2_with (first | (refine gl_load (by rfl) 23 _ rfl w.heap.size rfl 23 (feC u) _ F0 Try.underlying23 rfl feInfo ?_) | (refine gl_load (by rfl) 23 _ rfl (w.heap.size + 1) rfl 23 (feC v) _ F1 Try.underlying23 rfl feInfo ?_) | (refine gl_load (by rfl) 23 _ rfl y2.heap.size rfl 23 (feC r) _ F5 Try.underlying23 rfl feInfo ?_) | (refine gl_build (by rfl) 23 #[] rfl (feC 0) (by kernel_rfl) ?_) | (refine gl_build (by rfl) 23 #[(0, .const (.int .u8 1))] rfl (feC 1) (by kernel_rfl) ?_))
  refine (Square_p S1 rs _).mono ?_
  rintro e y6 ⟨rfl, k⟩
  replace F0 := F0.chg k (by simp)
  replace F1 := F1.chg k (by simp)
  replace F5 := F5.chg k (by simp)
  replace CC := CC.trans1 k
  clear k
  go_wp2_with (first | (refine gl_load (by rfl) 23 _ rfl w.heap.size rfl 23 (feC u) _ F0 Try.underlying23 rfl feInfo ?_) | (refine gl_load (by rfl) 23 _ rfl (w.heap.size + 1) rfl 23 (feC v) _ F1 Try.underlying23 rfl feInfo ?_) | (refine gl_load (by rfl) 23 _ rfl y2.heap.size rfl 23 (feC r) _ F5 Try.underlying23 rfl feInfo ?_) | (refine gl_build (by rfl) 23 #[] rfl (feC 0) (by kernel_rfl) ?_) | (refine gl_build (by rfl) 23 #[(0, .const (.int .u8 1))] rfl (feC 1) (by kernel_rfl) ?_))
  refine (Neg_p 1 rC1 _).mono ?_
  rintro e y7 ⟨rfl, k⟩
  replace F0 := F0.chg k (by simp)
  replace F1 := F1.chg k (by simp)
  replace F5 := F5.chg k (by simp)
  replace CC := CC.trans1 k
  clear k
  go_wp2_with (first | (refine gl_load (by rfl) 23 _ rfl w.heap.size rfl 23 (feC u) _ F0 Try.underlying23 rfl feInfo ?_) | (refine gl_load (by rfl) 23 _ rfl (w.heap.size + 1) rfl 23 (feC v) _ F1 Try.underlying23 rfl feInfo ?_) | (refine gl_load (by rfl) 23 _ rfl y2.heap.size rfl 23 (feC r) _ F5 Try.underlying23 rfl feInfo ?_) | (refine gl_build (by rfl) 23 #[] rfl (feC 0) (by kernel_rfl) ?_) | (refine gl_build (by rfl) 23 #[(0, .const (.int .u8 1))] rfl (feC 1) (by kernel_rfl) ?_))
  refine (Equal_p v 0 rv rC0 false n3.out _).mono ?_
  rintro e y8 ⟨rfl, k⟩
  replace F0 := F0.chg k (by simp)
  replace F1 := F1.chg k (by simp)
  replace F5 := F5.chg k (by simp)
  replace CC := CC.trans1 k
  clear k
  go_wp2_with (first | (refine gl_load (by rfl) 23 _ rfl w.heap.size rfl 23 (feC u) _ F0 Try.underlying23 rfl feInfo ?_) | (refine gl_load (by rfl) 23 _ rfl (w.heap.size + 1) rfl 23 (feC v) _ F1 Try.underlying23 rfl feInfo ?_) | (refine gl_load (by rfl) 23 _ rfl y2.heap.size rfl 23 (feC r) _ F5 Try.underlying23 rfl feInfo ?_) | (refine gl_build (by rfl) 23 #[] rfl (feC 0) (by kernel_rfl) ?_) | (refine gl_build (by rfl) 23 #[(0, .const (.int .u8 1))] rfl (feC 1) (by kernel_rfl) ?_))
  refine region_cut (fun a' w' => ∃ g7, a' = ⟨#[fe u, fe v, .pointer (some ⟨w.heap.size, 0, none⟩), .pointer (some ⟨(w.heap.size + 1), 0, none⟩), .bool false, .pointer (some ⟨y2.heap.size, 0, none⟩), .bool true, .pointer (some ⟨g7, 0, none⟩), .bool true, .bool false, .tuple #[fe r, .bool true], .agg (feC u), .agg (feC v), .tuple #[fe r, .bool true], fe r, .bool true, .agg (feC r), .bool false, .bool false, .agg (feC r), .bool true, .bool false, .bool false, .bool false, fe S1, fe (sq' S1), .agg (feC 1), fe (ng' 1), .bool false, .bool false, .agg (feC v), .agg (feC 0), .bool false, undef, undef, undef, undef, undef, undef, undef, undef, undef, undef, .agg (feC r), fe (sq' r), .agg (feC v), fe (ml' (sq' r) v), undef, undef, undef, undef, undef, undef, undef, undef, undef, undef, undef, undef, undef, undef, undef, undef, undef, undef, undef, undef, undef, undef, undef], []⟩ ∧ y8.heap.size ≤ g7 ∧ Blk w' g7 (feC (ml' (sq' r) v)) 23 ∧ Chg y8 w' []) ?_ ?_
  ·
    refine wp_region_held_drew (S := fun w' => Chg y8 w' []) (by kernel_rfl) ((Chg.refl y8 []).drew) (fun hHeld => ?_)
    refine take_load 0 (some 43) (feC r) rfl (by kernel_rfl) (by kernel_rfl) (by kernel_rfl) (fun _ _ _ h => h) rfl rfl 23 _ rfl y2.heap.size rfl 23 _ (fun w h => F5.chg h (by simp)) Try.underlying23 rfl feInfo hHeld ?_
    try simp only [Act.put, List.setIfInBounds_toArray, List.set_cons_zero, List.set_cons_succ]
    refine take_load 2 (some 45) (feC v) rfl (by kernel_rfl) (by kernel_rfl) (by kernel_rfl) (fun _ _ _ h => h) rfl rfl 23 _ rfl (w.heap.size + 1) rfl 23 _ (fun w h => F1.chg h (by simp)) Try.underlying23 rfl feInfo hHeld ?_
    try simp only [Act.put, List.setIfInBounds_toArray, List.set_cons_zero, List.set_cons_succ]
    refine wpAnyH_ready (rs := [1, 4]) (by kernel_rfl) (by simp) ?_
    refine AllReadyH.cons (o := _) rfl (fun K hK => ?_) ?_
    ·
      go_simp
      refine (Square_p r rr _).mono ?_
      rintro e x1 ⟨rfl, k⟩
      go_wp2_with fail
      refine hK.out _ _ (hHeld.trans1 k) (fun hHeld => ?_)
      clear k
      clear hK K
      try simp only [Act.put, List.setIfInBounds_toArray, List.set_cons_zero, List.set_cons_succ]
      refine wpAnyH_ready (rs := [3, 4]) (by kernel_rfl) (by simp) ?_
      refine AllReadyH.cons (o := _) rfl (fun K hK => ?_) ?_
      ·
        go_simp
        refine (Mul_p (sq' r) v (r256_mod _) rv _).mono ?_
        rintro e x2 ⟨rfl, k⟩
        go_wp2_with fail
        refine hK.out _ _ (hHeld.trans1 k) (fun hHeld => ?_)
        clear k
        clear hK K
        try simp only [Act.put, List.setIfInBounds_toArray, List.set_cons_zero, List.set_cons_succ]
        refine wpAnyH_ready (rs := [4]) (by kernel_rfl) (by simp) ?_
        refine AllReadyH.cons (o := _) rfl (fun K hK => ?_) ?_
        ·
          go_simp
          have b7 : y8.heap.size ≤ x2.heap.size := by have h := hHeld.size; simpa using h
          have c7 : Blk (x2.alloc (.cells z32 23)) (x2.heap.size) z32 23 := by have h := Blk.new x2 z32 23; simpa using h
          refine hK.out _ _ (hHeld.alloc _) (fun hHeld => ?_)
          clear hK K
          try simp only [Act.put, List.setIfInBounds_toArray, List.set_cons_zero, List.set_cons_succ]
          refine wpAnyH_ready (rs := [5]) (by kernel_rfl) (by simp) ?_
          refine AllReadyH.cons (o := _) rfl (fun K hK => ?_) ?_
          ·
            rw [if_pos (by rfl)]
            refine wp_store_row 23 _ _ rfl (x2.heap.size) _ rfl rfl 23 _ c7 feInfo rfl (feC_one _) ?_
            refine hK.out _ _ (hHeld.setRowNew b7 _) (fun hHeld => ?_)
            replace c7 := c7.setRow (feC (ml' (sq' r) v))
            clear hK K
            try simp only [Act.put, List.setIfInBounds_toArray, List.set_cons_zero, List.set_cons_succ]
            refine wpAnyH_done (by kernel_rfl) ?_ _
            exact ⟨(x2.heap.size), rfl, b7, c7, hHeld⟩
          exact AllReadyH.nil
        exact AllReadyH.nil
      refine AllReadyH.cons (o := _) rfl (fun K hK => ?_) ?_
      ·
        go_simp
        have b7 : y8.heap.size ≤ x1.heap.size := by have h := hHeld.size; simpa using h
        have c7 : Blk (x1.alloc (.cells z32 23)) (x1.heap.size) z32 23 := by have h := Blk.new x1 z32 23; simpa using h
        refine hK.out _ _ (hHeld.alloc _) (fun hHeld => ?_)
        clear hK K
        try simp only [Act.put, List.setIfInBounds_toArray, List.set_cons_zero, List.set_cons_succ]
        refine wpAnyH_ready (rs := [3]) (by kernel_rfl) (by simp) ?_
        refine AllReadyH.cons (o := _) rfl (fun K hK => ?_) ?_
        ·
          go_simp
          refine (Mul_p (sq' r) v (r256_mod _) rv _).mono ?_
          rintro e x3 ⟨rfl, k⟩
          go_wp2_with fail
          refine hK.out _ _ (hHeld.trans1 k) (fun hHeld => ?_)
          replace c7 := c7.chg k (by simp)
          clear k
          clear hK K
          try simp only [Act.put, List.setIfInBounds_toArray, List.set_cons_zero, List.set_cons_succ]
          refine wpAnyH_ready (rs := [5]) (by kernel_rfl) (by simp) ?_
          refine AllReadyH.cons (o := _) rfl (fun K hK => ?_) ?_
          ·
            rw [if_pos (by rfl)]
            refine wp_store_row 23 _ _ rfl (x1.heap.size) _ rfl rfl 23 _ c7 feInfo rfl (feC_one _) ?_
            refine hK.out _ _ (hHeld.setRowNew b7 _) (fun hHeld => ?_)
            replace c7 := c7.setRow (feC (ml' (sq' r) v))
            clear hK K
            try simp only [Act.put, List.setIfInBounds_toArray, List.set_cons_zero, List.set_cons_succ]
            refine wpAnyH_done (by kernel_rfl) ?_ _
            exact ⟨(x1.heap.size), rfl, b7, c7, hHeld⟩
          exact AllReadyH.nil
        exact AllReadyH.nil
      exact AllReadyH.nil
    refine AllReadyH.cons (o := _) rfl (fun K hK => ?_) ?_
    ·
      go_simp
      have b7 : y8.heap.size ≤ y8.heap.size := by have h := hHeld.size; simpa using h
      have c7 : Blk (y8.drew.alloc (.cells z32 23)) (y8.heap.size) z32 23 := by have h := Blk.new y8.drew z32 23; simpa using h
      refine hK.out _ _ (hHeld.alloc _) (fun hHeld => ?_)
      clear hK K
      try simp only [Act.put, List.setIfInBounds_toArray, List.set_cons_zero, List.set_cons_succ]
      refine wpAnyH_ready (rs := [1]) (by kernel_rfl) (by simp) ?_
      refine AllReadyH.cons (o := _) rfl (fun K hK => ?_) ?_
      ·
        go_simp
        refine (Square_p r rr _).mono ?_
        rintro e x4 ⟨rfl, k⟩
        go_wp2_with fail
        refine hK.out _ _ (hHeld.trans1 k) (fun hHeld => ?_)
        replace c7 := c7.chg k (by simp)
        clear k
        clear hK K
        try simp only [Act.put, List.setIfInBounds_toArray, List.set_cons_zero, List.set_cons_succ]
        refine wpAnyH_ready (rs := [3]) (by kernel_rfl) (by simp) ?_
        refine AllReadyH.cons (o := _) rfl (fun K hK => ?_) ?_
        ·
          go_simp
          refine (Mul_p (sq' r) v (r256_mod _) rv _).mono ?_
          rintro e x5 ⟨rfl, k⟩
          go_wp2_with fail
          refine hK.out _ _ (hHeld.trans1 k) (fun hHeld => ?_)
          replace c7 := c7.chg k (by simp)
          clear k
          clear hK K
          try simp only [Act.put, List.setIfInBounds_toArray, List.set_cons_zero, List.set_cons_succ]
          refine wpAnyH_ready (rs := [5]) (by kernel_rfl) (by simp) ?_
          refine AllReadyH.cons (o := _) rfl (fun K hK => ?_) ?_
          ·
            rw [if_pos (by rfl)]
            refine wp_store_row 23 _ _ rfl (y8.heap.size) _ rfl rfl 23 _ c7 feInfo rfl (feC_one _) ?_
            refine hK.out _ _ (hHeld.setRowNew b7 _) (fun hHeld => ?_)
            replace c7 := c7.setRow (feC (ml' (sq' r) v))
            clear hK K
            try simp only [Act.put, List.setIfInBounds_toArray, List.set_cons_zero, List.set_cons_succ]
            refine wpAnyH_done (by kernel_rfl) ?_ _
            exact ⟨(y8.heap.size), rfl, b7, c7, hHeld⟩
          exact AllReadyH.nil
        exact AllReadyH.nil
      exact AllReadyH.nil
    exact AllReadyH.nil
  rintro a' z0 ⟨g7, rfl, b7, F7, k⟩
  replace F0 := F0.chg k (by simp)
  replace F1 := F1.chg k (by simp)
  replace F5 := F5.chg k (by simp)
  replace CC := CC.trans1 k
  clear k
  clear F5
  go_wp2_with (first | (refine gl_load (by rfl) 23 _ rfl g7 rfl 23 (feC (ml' (sq' r) v)) _ F7 Try.underlying23 rfl feInfo ?_) | (refine gl_load (by rfl) 23 _ rfl w.heap.size rfl 23 (feC u) _ F0 Try.underlying23 rfl feInfo ?_) | (refine gl_load (by rfl) 23 _ rfl (w.heap.size + 1) rfl 23 (feC v) _ F1 Try.underlying23 rfl feInfo ?_) | (refine gl_build (by rfl) 23 #[] rfl (feC 0) (by kernel_rfl) ?_) | (refine gl_build (by rfl) 23 #[(0, .const (.int .u8 1))] rfl (feC 1) (by kernel_rfl) ?_))
  refine (Equal_p (ml' (sq' r) v) u (r256_mod _) ru true n4.out _).mono ?_
  rintro e y9 ⟨rfl, k⟩
  replace F7 := F7.chg k (by simp)
  replace F0 := F0.chg k (by simp)
  replace F1 := F1.chg k (by simp)
  replace CC := CC.trans1 k
  clear k
  go_wp2_with (first | (refine gl_load (by rfl) 23 _ rfl g7 rfl 23 (feC (ml' (sq' r) v)) _ F7 Try.underlying23 rfl feInfo ?_) | (refine gl_load (by rfl) 23 _ rfl w.heap.size rfl 23 (feC u) _ F0 Try.underlying23 rfl feInfo ?_) | (refine gl_load (by rfl) 23 _ rfl (w.heap.size + 1) rfl 23 (feC v) _ F1 Try.underlying23 rfl feInfo ?_) | (refine gl_build (by rfl) 23 #[] rfl (feC 0) (by kernel_rfl) ?_) | (refine gl_build (by rfl) 23 #[(0, .const (.int .u8 1))] rfl (feC 1) (by kernel_rfl) ?_))
  refine (Mul_p u v ru rv _).mono ?_
  rintro e y10 ⟨rfl, k⟩
  replace F7 := F7.chg k (by simp)
  replace F0 := F0.chg k (by simp)
  replace F1 := F1.chg k (by simp)
  replace CC := CC.trans1 k
  clear k
  go_wp2_with (first | (refine gl_load (by rfl) 23 _ rfl g7 rfl 23 (feC (ml' (sq' r) v)) _ F7 Try.underlying23 rfl feInfo ?_) | (refine gl_load (by rfl) 23 _ rfl w.heap.size rfl 23 (feC u) _ F0 Try.underlying23 rfl feInfo ?_) | (refine gl_load (by rfl) 23 _ rfl (w.heap.size + 1) rfl 23 (feC v) _ F1 Try.underlying23 rfl feInfo ?_) | (refine gl_build (by rfl) 23 #[] rfl (feC 0) (by kernel_rfl) ?_) | (refine gl_build (by rfl) 23 #[(0, .const (.int .u8 1))] rfl (feC 1) (by kernel_rfl) ?_))
  refine (Legendre_fe (ml' u v) (r256_mod _) lg n5.out _).mono ?_
  rintro e y11 ⟨rfl, k⟩
  replace F7 := F7.chg k (by simp)
  replace F0 := F0.chg k (by simp)
  replace F1 := F1.chg k (by simp)
  replace CC := CC.trans1 k
  clear k
  go_wp2
  go_ret
  exact ⟨rfl, CC⟩

set_option maxHeartbeats 16000000 in
set_option maxRecDepth 100000 in
theorem rooted_no (u v r : Int) (ru : R256 u) (rv : R256 v) (hr : Hid (r = ab (rootf u v))) (ht : Hid (okf u v = false)) (rr : R256 r) (n0 : Hid ((r % P % 2 == 1) = false)) (n1 : Hid (eqf r (r % P) = true)) (n2 : eqf (sq' S1) (ng' 1) = true) (n3 : Hid (eqf (v % P) (0 % P) = false)) (n4 : eqf (ml' (sq' r) v) (ml' S1 u) = true) (n5 : Hid (-1 = leg (ml' u v))) (w : World) :
    Calls Try.prog 5 #[fe u, fe v] w fun e w' => e = .returned (.bool true) ∧ Chg w w' [] := by
  have hge := feGuard
  have rs := r256_S1
  have F0 : Blk ((w.alloc (.cells (feC u) 23)).alloc (.cells (feC v) 23)) w.heap.size (feC u) 23 := (Blk.new w (feC u) 23).alloc _
  have F1 : Blk ((w.alloc (.cells (feC u) 23)).alloc (.cells (feC v) 23)) (w.heap.size + 1) (feC v) 23 := by have h := Blk.new (w.alloc (.cells (feC u) 23)) (feC v) 23; simpa using h
  have CC : Chg w ((w.alloc (.cells (feC u) 23)).alloc (.cells (feC v) 23)) [] := ((Chg.refl w []).alloc (.cells (feC u) 23)).alloc (.cells (feC v) 23)
  go_enter Try.func5, Try.ntmps5
  go_wp2_with fail
  refine (alive_true _).mono ?_
  rintro e y1 ⟨rfl, k⟩
  replace F0 := F0.chg k (by simp)
  replace F1 := F1.chg k (by simp)
  replace CC := CC.trans1 k
  clear k
  go_wp2_with (first | (refine gl_load (by rfl) 23 _ rfl w.heap.size rfl 23 (feC u) _ F0 Try.underlying23 rfl feInfo ?_) | (refine gl_load (by rfl) 23 _ rfl (w.heap.size + 1) rfl 23 (feC v) _ F1 Try.underlying23 rfl feInfo ?_) | (refine gl_build (by rfl) 23 #[] rfl (feC 0) (by kernel_rfl) ?_) | (refine gl_build (by rfl) 23 #[(0, .const (.int .u8 1))] rfl (feC 1) (by kernel_rfl) ?_))
  refine (Sqrt_p u v ru rv r false hr.out ht.out _).mono ?_
  rintro e y2 ⟨rfl, k⟩
  replace F0 := F0.chg k (by simp)
  replace F1 := F1.chg k (by simp)
  replace CC := CC.trans1 k
  clear k
  have sz : w.heap.size + 1 < y2.heap.size := F1.lt
  have A1 : Blk (y2.alloc (.cells z32 23)) y2.heap.size z32 23 := Blk.new y2 z32 23
  have B0 : Blk ((y2.alloc (.cells z32 23)).setRow y2.heap.size (feC r)) w.heap.size (feC u) 23 := (F0.alloc _).setRowOther (by omega) _
  have B1 : Blk ((y2.alloc (.cells z32 23)).setRow y2.heap.size (feC r)) (w.heap.size + 1) (feC v) 23 := (F1.alloc _).setRowOther (by omega) _
  have B5 : Blk ((y2.alloc (.cells z32 23)).setRow y2.heap.size (feC r)) y2.heap.size (feC r) 23 := A1.setRow _
  have CD : Chg w ((y2.alloc (.cells z32 23)).setRow y2.heap.size (feC r)) [] := (CC.alloc (.cells z32 23)).setRowNew CC.size _
  go_wp2_with (first | (refine wpList_store_row rfl 23 _ _ rfl y2.heap.size _ rfl rfl 23 _ A1 feInfo rfl (feC_one _) ?_) | (refine gl_load (by rfl) 23 _ rfl y2.heap.size rfl 23 (feC r) _ B5 Try.underlying23 rfl feInfo ?_))
  clear F0 F1 CC
  have F0 := B0
  have F1 := B1
  have F5 := B5
  have CC := CD
  clear B0 B1 B5 CD A1
  obtain ⟨g5, hg5⟩ : ∃ g, g = y2.heap.size := ⟨_, rfl⟩
  replace hg5 : Hid (g5 = y2.heap.size) := hg5
  clear hg5 g5
  refine (IsNeg_p r rr false n0.out _).mono ?_
  rintro e y3 ⟨rfl, k⟩
  replace F0 := F0.chg k (by simp)
  replace F1 := F1.chg k (by simp)
  replace F5 := F5.chg k (by simp)
  replace CC := CC.trans1 k
  clear k
  go_wp2_with (first | (refine gl_load (by rfl) 23 _ rfl w.heap.size rfl 23 (feC u) _ F0 Try.underlying23 rfl feInfo ?_) | (refine gl_load (by rfl) 23 _ rfl (w.heap.size + 1) rfl 23 (feC v) _ F1 Try.underlying23 rfl feInfo ?_) | (refine gl_load (by rfl) 23 _ rfl y2.heap.size rfl 23 (feC r) _ F5 Try.underlying23 rfl feInfo ?_) | (refine gl_build (by rfl) 23 #[] rfl (feC 0) (by kernel_rfl) ?_) | (refine gl_build (by rfl) 23 #[(0, .const (.int .u8 1))] rfl (feC 1) (by kernel_rfl) ?_))
  refine (Canon_p r rr true n1.out _).mono ?_
  rintro e y4 ⟨rfl, k⟩
  replace F0 := F0.chg k (by simp)
  replace F1 := F1.chg k (by simp)
  replace F5 := F5.chg k (by simp)
  replace CC := CC.trans1 k
  clear k
  go_wp2_with (first | (refine gl_load (by rfl) 23 _ rfl w.heap.size rfl 23 (feC u) _ F0 Try.underlying23 rfl feInfo ?_) | (refine gl_load (by rfl) 23 _ rfl (w.heap.size + 1) rfl 23 (feC v) _ F1 Try.underlying23 rfl feInfo ?_) | (refine gl_load (by rfl) 23 _ rfl y2.heap.size rfl 23 (feC r) _ F5 Try.underlying23 rfl feInfo ?_) | (refine gl_build (by rfl) 23 #[] rfl (feC 0) (by kernel_rfl) ?_) | (refine gl_build (by rfl) 23 #[(0, .const (.int .u8 1))] rfl (feC 1) (by kernel_rfl) ?_))
  refine (SqrtM1_fe _).mono ?_
  rintro e y5 ⟨rfl, k⟩
  replace F0 := F0.chg k (by simp)
  replace F1 := F1.chg k (by simp)
  replace F5 := F5.chg k (by simp)
  replace CC := CC.trans1 k
  clear k
  go_wp2_with (first | (refine gl_load (by rfl) 23 _ rfl w.heap.size rfl 23 (feC u) _ F0 Try.underlying23 rfl feInfo ?_) | (refine gl_load (by rfl) 23 _ rfl (w.heap.size + 1) rfl 23 (feC v) _ F1 Try.underlying23 rfl feInfo ?_) | (refine gl_load (by rfl) 23 _ rfl y2.heap.size rfl 23 (feC r) _ F5 Try.underlying23 rfl feInfo ?_) | (refine gl_build (by rfl) 23 #[] rfl (feC 0) (by kernel_rfl) ?_) | (refine gl_build (by rfl) 23 #[(0, .const (.int .u8 1))] rfl (feC 1) (by kernel_rfl) ?_))
  refine (Square_p S1 rs _).mono ?_
  rintro e y6 ⟨rfl, k⟩
  replace F0 := F0.chg k (by simp)
  replace F1 := F1.chg k (by simp)
  replace F5 := F5.chg k (by simp)
  replace CC := CC.trans1 k
  clear k
  go_wp2_with (first | (refine gl_load (by rfl) 23 _ rfl w.heap.size rfl 23 (feC u) _ F0 Try.underlying23 rfl feInfo ?_) | (refine gl_load (by rfl) 23 _ rfl (w.heap.size + 1) rfl 23 (feC v) _ F1 Try.underlying23 rfl feInfo ?_) | (refine gl_load (by rfl) 23 _ rfl y2.heap.size rfl 23 (feC r) _ F5 Try.underlying23 rfl feInfo ?_) | (refine gl_build (by rfl) 23 #[] rfl (feC 0) (by kernel_rfl) ?_) | (refine gl_build (by rfl) 23 #[(0, .const (.int .u8 1))] rfl (feC 1) (by kernel_rfl) ?_))
  refine (Neg_p 1 rC1 _).mono ?_
  rintro e y7 ⟨rfl, k⟩
  replace F0 := F0.chg k (by simp)
  replace F1 := F1.chg k (by simp)
  replace F5 := F5.chg k (by simp)
  replace CC := CC.trans1 k
  clear k
  go_wp2_with (first | (refine gl_load (by rfl) 23 _ rfl w.heap.size rfl 23 (feC u) _ F0 Try.underlying23 rfl feInfo ?_) | (refine gl_load (by rfl) 23 _ rfl (w.heap.size + 1) rfl 23 (feC v) _ F1 Try.underlying23 rfl feInfo ?_) | (refine gl_load (by rfl) 23 _ rfl y2.heap.size rfl 23 (feC r) _ F5 Try.underlying23 rfl feInfo ?_) | (refine gl_build (by rfl) 23 #[] rfl (feC 0) (by kernel_rfl) ?_) | (refine gl_build (by rfl) 23 #[(0, .const (.int .u8 1))] rfl (feC 1) (by kernel_rfl) ?_))
  refine (Equal_p v 0 rv rC0 false n3.out _).mono ?_
  rintro e y8 ⟨rfl, k⟩
  replace F0 := F0.chg k (by simp)
  replace F1 := F1.chg k (by simp)
  replace F5 := F5.chg k (by simp)
  replace CC := CC.trans1 k
  clear k
  go_wp2_with (first | (refine gl_load (by rfl) 23 _ rfl w.heap.size rfl 23 (feC u) _ F0 Try.underlying23 rfl feInfo ?_) | (refine gl_load (by rfl) 23 _ rfl (w.heap.size + 1) rfl 23 (feC v) _ F1 Try.underlying23 rfl feInfo ?_) | (refine gl_load (by rfl) 23 _ rfl y2.heap.size rfl 23 (feC r) _ F5 Try.underlying23 rfl feInfo ?_) | (refine gl_build (by rfl) 23 #[] rfl (feC 0) (by kernel_rfl) ?_) | (refine gl_build (by rfl) 23 #[(0, .const (.int .u8 1))] rfl (feC 1) (by kernel_rfl) ?_))
  refine region_cut (fun a' w' => ∃ g7, a' = ⟨#[fe u, fe v, .pointer (some ⟨w.heap.size, 0, none⟩), .pointer (some ⟨(w.heap.size + 1), 0, none⟩), .bool false, .pointer (some ⟨y2.heap.size, 0, none⟩), .bool false, .pointer (some ⟨g7, 0, none⟩), .bool true, .bool false, .tuple #[fe r, .bool false], .agg (feC u), .agg (feC v), .tuple #[fe r, .bool false], fe r, .bool false, .agg (feC r), .bool false, .bool false, .agg (feC r), .bool true, .bool false, .bool false, .bool false, fe S1, fe (sq' S1), .agg (feC 1), fe (ng' 1), .bool false, .bool false, .agg (feC v), .agg (feC 0), .bool false, undef, undef, undef, undef, undef, undef, undef, undef, undef, undef, .agg (feC r), fe (sq' r), .agg (feC v), fe (ml' (sq' r) v), undef, undef, undef, undef, undef, undef, undef, undef, undef, undef, undef, undef, undef, undef, undef, undef, undef, undef, undef, undef, undef, undef, undef], []⟩ ∧ y8.heap.size ≤ g7 ∧ Blk w' g7 (feC (ml' (sq' r) v)) 23 ∧ Chg y8 w' []) ?_ ?_
  ·
    refine wp_region_held_drew (S := fun w' => Chg y8 w' []) (by kernel_rfl) ((Chg.refl y8 []).drew) (fun hHeld => ?_)
    refine take_load 0 (some 43) (feC r) rfl (by kernel_rfl) (by kernel_rfl) (by kernel_rfl) (fun _ _ _ h => h) rfl rfl 23 _ rfl y2.heap.size rfl 23 _ (fun w h => F5.chg h (by simp)) Try.underlying23 rfl feInfo hHeld ?_
    try simp only [Act.put, List.setIfInBounds_toArray, List.set_cons_zero, List.set_cons_succ]
    refine take_load 2 (some 45) (feC v) rfl (by kernel_rfl) (by kernel_rfl) (by kernel_rfl) (fun _ _ _ h => h) rfl rfl 23 _ rfl (w.heap.size + 1) rfl 23 _ (fun w h => F1.chg h (by simp)) Try.underlying23 rfl feInfo hHeld ?_
    try simp only [Act.put, List.setIfInBounds_toArray, List.set_cons_zero, List.set_cons_succ]
    refine wpAnyH_ready (rs := [1, 4]) (by kernel_rfl) (by simp) ?_
    refine AllReadyH.cons (o := _) rfl (fun K hK => ?_) ?_
    ·
      go_simp
      refine (Square_p r rr _).mono ?_
      rintro e x1 ⟨rfl, k⟩
      go_wp2_with fail
      refine hK.out _ _ (hHeld.trans1 k) (fun hHeld => ?_)
      clear k
      clear hK K
      try simp only [Act.put, List.setIfInBounds_toArray, List.set_cons_zero, List.set_cons_succ]
      refine wpAnyH_ready (rs := [3, 4]) (by kernel_rfl) (by simp) ?_
      refine AllReadyH.cons (o := _) rfl (fun K hK => ?_) ?_
      ·
        go_simp
        refine (Mul_p (sq' r) v (r256_mod _) rv _).mono ?_
        rintro e x2 ⟨rfl, k⟩
        go_wp2_with fail
        refine hK.out _ _ (hHeld.trans1 k) (fun hHeld => ?_)
        clear k
        clear hK K
        try simp only [Act.put, List.setIfInBounds_toArray, List.set_cons_zero, List.set_cons_succ]
        refine wpAnyH_ready (rs := [4]) (by kernel_rfl) (by simp) ?_
        refine AllReadyH.cons (o := _) rfl (fun K hK => ?_) ?_
        ·
          go_simp
          have b7 : y8.heap.size ≤ x2.heap.size := by have h := hHeld.size; simpa using h
          have c7 : Blk (x2.alloc (.cells z32 23)) (x2.heap.size) z32 23 := by have h := Blk.new x2 z32 23; simpa using h
          refine hK.out _ _ (hHeld.alloc _) (fun hHeld => ?_)
          clear hK K
          try simp only [Act.put, List.setIfInBounds_toArray, List.set_cons_zero, List.set_cons_succ]
          refine wpAnyH_ready (rs := [5]) (by kernel_rfl) (by simp) ?_
          refine AllReadyH.cons (o := _) rfl (fun K hK => ?_) ?_
          ·
            rw [if_pos (by rfl)]
            refine wp_store_row 23 _ _ rfl (x2.heap.size) _ rfl rfl 23 _ c7 feInfo rfl (feC_one _) ?_
            refine hK.out _ _ (hHeld.setRowNew b7 _) (fun hHeld => ?_)
            replace c7 := c7.setRow (feC (ml' (sq' r) v))
            clear hK K
            try simp only [Act.put, List.setIfInBounds_toArray, List.set_cons_zero, List.set_cons_succ]
            refine wpAnyH_done (by kernel_rfl) ?_ _
            exact ⟨(x2.heap.size), rfl, b7, c7, hHeld⟩
          exact AllReadyH.nil
        exact AllReadyH.nil
      refine AllReadyH.cons (o := _) rfl (fun K hK => ?_) ?_
      ·
        go_simp
        have b7 : y8.heap.size ≤ x1.heap.size := by have h := hHeld.size; simpa using h
        have c7 : Blk (x1.alloc (.cells z32 23)) (x1.heap.size) z32 23 := by have h := Blk.new x1 z32 23; simpa using h
        refine hK.out _ _ (hHeld.alloc _) (fun hHeld => ?_)
        clear hK K
        try simp only [Act.put, List.setIfInBounds_toArray, List.set_cons_zero, List.set_cons_succ]
        refine wpAnyH_ready (rs := [3]) (by kernel_rfl) (by simp) ?_
        refine AllReadyH.cons (o := _) rfl (fun K hK => ?_) ?_
        ·
          go_simp
          refine (Mul_p (sq' r) v (r256_mod _) rv _).mono ?_
          rintro e x3 ⟨rfl, k⟩
          go_wp2_with fail
          refine hK.out _ _ (hHeld.trans1 k) (fun hHeld => ?_)
          replace c7 := c7.chg k (by simp)
          clear k
          clear hK K
          try simp only [Act.put, List.setIfInBounds_toArray, List.set_cons_zero, List.set_cons_succ]
          refine wpAnyH_ready (rs := [5]) (by kernel_rfl) (by simp) ?_
          refine AllReadyH.cons (o := _) rfl (fun K hK => ?_) ?_
          ·
            rw [if_pos (by rfl)]
            refine wp_store_row 23 _ _ rfl (x1.heap.size) _ rfl rfl 23 _ c7 feInfo rfl (feC_one _) ?_
            refine hK.out _ _ (hHeld.setRowNew b7 _) (fun hHeld => ?_)
            replace c7 := c7.setRow (feC (ml' (sq' r) v))
            clear hK K
            try simp only [Act.put, List.setIfInBounds_toArray, List.set_cons_zero, List.set_cons_succ]
            refine wpAnyH_done (by kernel_rfl) ?_ _
            exact ⟨(x1.heap.size), rfl, b7, c7, hHeld⟩
          exact AllReadyH.nil
        exact AllReadyH.nil
      exact AllReadyH.nil
    refine AllReadyH.cons (o := _) rfl (fun K hK => ?_) ?_
    ·
      go_simp
      have b7 : y8.heap.size ≤ y8.heap.size := by have h := hHeld.size; simpa using h
      have c7 : Blk (y8.drew.alloc (.cells z32 23)) (y8.heap.size) z32 23 := by have h := Blk.new y8.drew z32 23; simpa using h
      refine hK.out _ _ (hHeld.alloc _) (fun hHeld => ?_)
      clear hK K
      try simp only [Act.put, List.setIfInBounds_toArray, List.set_cons_zero, List.set_cons_succ]
      refine wpAnyH_ready (rs := [1]) (by kernel_rfl) (by simp) ?_
      refine AllReadyH.cons (o := _) rfl (fun K hK => ?_) ?_
      ·
        go_simp
        refine (Square_p r rr _).mono ?_
        rintro e x4 ⟨rfl, k⟩
        go_wp2_with fail
        refine hK.out _ _ (hHeld.trans1 k) (fun hHeld => ?_)
        replace c7 := c7.chg k (by simp)
        clear k
        clear hK K
        try simp only [Act.put, List.setIfInBounds_toArray, List.set_cons_zero, List.set_cons_succ]
        refine wpAnyH_ready (rs := [3]) (by kernel_rfl) (by simp) ?_
        refine AllReadyH.cons (o := _) rfl (fun K hK => ?_) ?_
        ·
          go_simp
          refine (Mul_p (sq' r) v (r256_mod _) rv _).mono ?_
          rintro e x5 ⟨rfl, k⟩
          go_wp2_with fail
          refine hK.out _ _ (hHeld.trans1 k) (fun hHeld => ?_)
          replace c7 := c7.chg k (by simp)
          clear k
          clear hK K
          try simp only [Act.put, List.setIfInBounds_toArray, List.set_cons_zero, List.set_cons_succ]
          refine wpAnyH_ready (rs := [5]) (by kernel_rfl) (by simp) ?_
          refine AllReadyH.cons (o := _) rfl (fun K hK => ?_) ?_
          ·
            rw [if_pos (by rfl)]
            refine wp_store_row 23 _ _ rfl (y8.heap.size) _ rfl rfl 23 _ c7 feInfo rfl (feC_one _) ?_
            refine hK.out _ _ (hHeld.setRowNew b7 _) (fun hHeld => ?_)
            replace c7 := c7.setRow (feC (ml' (sq' r) v))
            clear hK K
            try simp only [Act.put, List.setIfInBounds_toArray, List.set_cons_zero, List.set_cons_succ]
            refine wpAnyH_done (by kernel_rfl) ?_ _
            exact ⟨(y8.heap.size), rfl, b7, c7, hHeld⟩
          exact AllReadyH.nil
        exact AllReadyH.nil
      exact AllReadyH.nil
    exact AllReadyH.nil
  rintro a' z0 ⟨g7, rfl, b7, F7, k⟩
  replace F0 := F0.chg k (by simp)
  replace F1 := F1.chg k (by simp)
  replace F5 := F5.chg k (by simp)
  replace CC := CC.trans1 k
  clear k
  clear F5
  go_wp2_with fail
  refine wp_region_held_drew (S := fun w' => Chg z0 w' []) (by kernel_rfl) ((Chg.refl z0 []).drew) (fun hHeld => ?_)
  refine take_load 0 (some 58) (feC (ml' (sq' r) v)) rfl (by kernel_rfl) (by kernel_rfl) (by kernel_rfl) (fun _ _ _ h => h) rfl rfl 23 _ rfl g7 rfl 23 _ (fun w h => F7.chg h (by simp)) Try.underlying23 rfl (by first | exact feInfo | kernel_rfl) hHeld ?_
  try simp only [Act.put, List.setIfInBounds_toArray, List.set_cons_zero, List.set_cons_succ]
  refine take_load 2 (some 60) (feC u) rfl (by kernel_rfl) (by kernel_rfl) (by kernel_rfl) (fun _ _ _ h => h) rfl rfl 23 _ rfl w.heap.size rfl 23 _ (fun w h => F0.chg h (by simp)) Try.underlying23 rfl (by first | exact feInfo | kernel_rfl) hHeld ?_
  try simp only [Act.put, List.setIfInBounds_toArray, List.set_cons_zero, List.set_cons_succ]
  refine wpAnyH_ready (rs := [1]) (by kernel_rfl) (by simp) ?_
  refine AllReadyH.cons (o := _) rfl (fun K hK => ?_) ?_
  ·
    go_simp
    refine (SqrtM1_fe _).mono ?_
    rintro e q1 ⟨rfl, k⟩
    go_wp2_with fail
    refine hK.out _ _ (hHeld.trans1 k) (fun hHeld => ?_)
    clear hK K
    try simp only [Act.put, List.setIfInBounds_toArray, List.set_cons_zero, List.set_cons_succ]
    refine wpAnyH_ready (rs := [3]) (by kernel_rfl) (by simp) ?_
    refine AllReadyH.cons (o := _) rfl (fun K hK => ?_) ?_
    ·
      go_simp
      refine (Mul_p S1 u rs ru _).mono ?_
      rintro e q2 ⟨rfl, k⟩
      go_wp2_with fail
      refine hK.out _ _ (hHeld.trans1 k) (fun hHeld => ?_)
      clear hK K
      try simp only [Act.put, List.setIfInBounds_toArray, List.set_cons_zero, List.set_cons_succ]
      refine take_val (v := (.bool true)) 4 (some 62) rfl (by kernel_rfl) (by kernel_rfl) (by kernel_rfl) (fun _ _ _ h => h) rfl rfl (fun w hSw => ?_) hHeld ?_
      · (go_simp; try with_reducible rfl)
      try simp only [Act.put, List.setIfInBounds_toArray, List.set_cons_zero, List.set_cons_succ]
      refine take_val (v := ?_) 5 (some 63) rfl (by kernel_rfl) (by kernel_rfl) (by kernel_rfl) (fun _ _ _ h => h) rfl rfl (fun w hSw => ?_) hHeld ?_
      rotate_left
      · (go_simp; try with_reducible rfl)
      try simp only [Act.put, List.setIfInBounds_toArray, List.set_cons_zero, List.set_cons_succ]
      refine take_load 6 (some 64) (feC u) rfl (by kernel_rfl) (by kernel_rfl) (by kernel_rfl) (fun _ _ _ h => h) rfl rfl 23 _ rfl w.heap.size rfl 23 _ (fun w h => F0.chg h (by simp)) Try.underlying23 rfl (by first | exact feInfo | kernel_rfl) hHeld ?_
      try simp only [Act.put, List.setIfInBounds_toArray, List.set_cons_zero, List.set_cons_succ]
      refine take_load 7 (some 65) (feC v) rfl (by kernel_rfl) (by kernel_rfl) (by kernel_rfl) (fun _ _ _ h => h) rfl rfl 23 _ rfl (w.heap.size + 1) rfl 23 _ (fun w h => F1.chg h (by simp)) Try.underlying23 rfl (by first | exact feInfo | kernel_rfl) hHeld ?_
      try simp only [Act.put, List.setIfInBounds_toArray, List.set_cons_zero, List.set_cons_succ]
      refine wpAnyH_ready (rs := [8]) (by kernel_rfl) (by simp) ?_
      refine AllReadyH.cons (o := _) rfl (fun K hK => ?_) ?_
      ·
        go_simp
        refine (Mul_p u v ru rv _).mono ?_
        rintro e q3 ⟨rfl, k⟩
        go_wp2_with fail
        refine hK.out _ _ (hHeld.trans1 k) (fun hHeld => ?_)
        clear hK K
        try simp only [Act.put, List.setIfInBounds_toArray, List.set_cons_zero, List.set_cons_succ]
        refine wpAnyH_ready (rs := [9]) (by kernel_rfl) (by simp) ?_
        refine AllReadyH.cons (o := _) rfl (fun K hK => ?_) ?_
        ·
          go_simp
          refine (Legendre_fe (ml' u v) (r256_mod _) (-1) n5.out _).mono ?_
          rintro e q4 ⟨rfl, k⟩
          go_wp2_with fail
          refine hK.out _ _ (hHeld.trans1 k) (fun hHeld => ?_)
          clear hK K
          try simp only [Act.put, List.setIfInBounds_toArray, List.set_cons_zero, List.set_cons_succ]
          refine take_val (v := (.bool true)) 10 (some 68) rfl (by kernel_rfl) (by kernel_rfl) (by kernel_rfl) (fun _ _ _ h => h) rfl rfl (fun w hSw => ?_) hHeld ?_
          · (go_simp; try with_reducible rfl)
          try simp only [Act.put, List.setIfInBounds_toArray, List.set_cons_zero, List.set_cons_succ]
          refine take_val (v := ?_) 11 (some 69) rfl (by kernel_rfl) (by kernel_rfl) (by kernel_rfl) (fun _ _ _ h => h) rfl rfl (fun w hSw => ?_) hHeld ?_
          rotate_left
          · (go_simp; try with_reducible rfl)
          try simp only [Act.put, List.setIfInBounds_toArray, List.set_cons_zero, List.set_cons_succ]
          refine take_val (v := ?_) 12 (some 4) rfl (by kernel_rfl) (by kernel_rfl) (by kernel_rfl) (fun _ _ _ h => h) rfl rfl (fun w hSw => ?_) hHeld ?_
          rotate_left
          · (go_simp; try with_reducible rfl)
          try simp only [Act.put, List.setIfInBounds_toArray, List.set_cons_zero, List.set_cons_succ]
          refine wpAnyH_done (by kernel_rfl) ?_ _
          go_wp2
          go_ret
          exact ⟨rfl, CC.trans1 hHeld⟩
        exact AllReadyH.nil
      exact AllReadyH.nil
    exact AllReadyH.nil
  exact AllReadyH.nil
end Go.Proofs.Ytialljmkkichiab
