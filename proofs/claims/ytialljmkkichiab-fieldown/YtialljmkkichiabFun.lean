/- The functions of the package field over 32 bytes: Mul, Add, Sub .. -/
import Derived.Test.YtialljmkkichiabPowers
set_option linter.unusedVariables false
set_option linter.unusedSimpArgs false
set_option linter.unnecessarySimpa false
namespace Go.Proofs.Ytialljmkkichiab
open Go.RowKit N

/-- A number of 256 bits. -/
def R256 (n : Int) : Prop := 0 ≤ n ∧ n < 115792089237316195423570985008687907853269984665640564039457584007913129639936
theorem r256_mod (n : Int) : R256 (n % P) := by
  have h1 := Int.emod_nonneg n (show P ≠ 0 by decide)
  have h2 := Int.emod_lt_of_pos n (show 0 < P by decide)
  unfold R256 P at *
  omega

set_option maxHeartbeats 4000000 in
set_option maxRecDepth 100000 in
/-- Mul: the product. -/
theorem Mul_fe (a b : Int) (ra : R256 a) (rb : R256 b) (w : World) :
    Calls Try.prog 14 #[fe a, fe b] w fun e w' => e = .returned (fe (a * b % P)) ∧ Chg w w' [] := by
  go_enter Try.func14, Try.ntmps14
  go_wp2_with fail
  have hc0 : Chg w (((((w.alloc (.cells (feC a) 23)).alloc (.cells (feC b) 23)).alloc (.cells z32 23)).alloc (.cells #[.int .u64 0, .int .u64 0, .int .u64 0, .int .u64 0, .int .u64 0] 79)).alloc (.cells #[.int .u64 0, .int .u64 0, .int .u64 0, .int .u64 0, .int .u64 0] 79)) [] := (((((Chg.refl w []).alloc (.cells (feC a) 23)).alloc (.cells (feC b) 23)).alloc (.cells z32 23)).alloc (.cells #[.int .u64 0, .int .u64 0, .int .u64 0, .int .u64 0, .int .u64 0] 79)).alloc (.cells #[.int .u64 0, .int .u64 0, .int .u64 0, .int .u64 0, .int .u64 0] 79)
  have f0 : Blk (((((w.alloc (.cells (feC a) 23)).alloc (.cells (feC b) 23)).alloc (.cells z32 23)).alloc (.cells #[.int .u64 0, .int .u64 0, .int .u64 0, .int .u64 0, .int .u64 0] 79)).alloc (.cells #[.int .u64 0, .int .u64 0, .int .u64 0, .int .u64 0, .int .u64 0] 79)) w.heap.size (feC a) 23 := by have h := (((((Blk.new w (feC a) 23).alloc (.cells (feC b) 23)).alloc (.cells z32 23)).alloc (.cells #[.int .u64 0, .int .u64 0, .int .u64 0, .int .u64 0, .int .u64 0] 79)).alloc (.cells #[.int .u64 0, .int .u64 0, .int .u64 0, .int .u64 0, .int .u64 0] 79)); simpa using h
  have f1 : Blk (((((w.alloc (.cells (feC a) 23)).alloc (.cells (feC b) 23)).alloc (.cells z32 23)).alloc (.cells #[.int .u64 0, .int .u64 0, .int .u64 0, .int .u64 0, .int .u64 0] 79)).alloc (.cells #[.int .u64 0, .int .u64 0, .int .u64 0, .int .u64 0, .int .u64 0] 79)) (w.heap.size + 1) (feC b) 23 := by have h := ((((Blk.new (w.alloc (.cells (feC a) 23)) (feC b) 23).alloc (.cells z32 23)).alloc (.cells #[.int .u64 0, .int .u64 0, .int .u64 0, .int .u64 0, .int .u64 0] 79)).alloc (.cells #[.int .u64 0, .int .u64 0, .int .u64 0, .int .u64 0, .int .u64 0] 79)); simpa using h
  have f2 : Blk (((((w.alloc (.cells (feC a) 23)).alloc (.cells (feC b) 23)).alloc (.cells z32 23)).alloc (.cells #[.int .u64 0, .int .u64 0, .int .u64 0, .int .u64 0, .int .u64 0] 79)).alloc (.cells #[.int .u64 0, .int .u64 0, .int .u64 0, .int .u64 0, .int .u64 0] 79)) (w.heap.size + 2) z32 23 := by have h := (((Blk.new ((w.alloc (.cells (feC a) 23)).alloc (.cells (feC b) 23)) z32 23).alloc (.cells #[.int .u64 0, .int .u64 0, .int .u64 0, .int .u64 0, .int .u64 0] 79)).alloc (.cells #[.int .u64 0, .int .u64 0, .int .u64 0, .int .u64 0, .int .u64 0] 79)); simpa using h
  have f3 : Nm (((((w.alloc (.cells (feC a) 23)).alloc (.cells (feC b) 23)).alloc (.cells z32 23)).alloc (.cells #[.int .u64 0, .int .u64 0, .int .u64 0, .int .u64 0, .int .u64 0] 79)).alloc (.cells #[.int .u64 0, .int .u64 0, .int .u64 0, .int .u64 0, .int .u64 0] 79)) (w.heap.size + 3) 0 := by have h := ((Nm.new (((w.alloc (.cells (feC a) 23)).alloc (.cells (feC b) 23)).alloc (.cells z32 23))).alloc (.cells #[.int .u64 0, .int .u64 0, .int .u64 0, .int .u64 0, .int .u64 0] 79)); simpa using h
  have f4 : Nm (((((w.alloc (.cells (feC a) 23)).alloc (.cells (feC b) 23)).alloc (.cells z32 23)).alloc (.cells #[.int .u64 0, .int .u64 0, .int .u64 0, .int .u64 0, .int .u64 0] 79)).alloc (.cells #[.int .u64 0, .int .u64 0, .int .u64 0, .int .u64 0, .int .u64 0] 79)) (w.heap.size + 4) 0 := by have h := (Nm.new ((((w.alloc (.cells (feC a) 23)).alloc (.cells (feC b) 23)).alloc (.cells z32 23)).alloc (.cells #[.int .u64 0, .int .u64 0, .int .u64 0, .int .u64 0, .int .u64 0] 79))); simpa using h
  generalize hv0 : (((((w.alloc (.cells (feC a) 23)).alloc (.cells (feC b) 23)).alloc (.cells z32 23)).alloc (.cells #[.int .u64 0, .int .u64 0, .int .u64 0, .int .u64 0, .int .u64 0] 79)).alloc (.cells #[.int .u64 0, .int .u64 0, .int .u64 0, .int .u64 0, .int .u64 0] 79)) = v0 at hc0 f0 f1 f2 f3 f4
  try (change Calls Try.prog _ _ (((((w.alloc (.cells (feC a) 23)).alloc (.cells (feC b) 23)).alloc (.cells z32 23)).alloc (.cells #[.int .u64 0, .int .u64 0, .int .u64 0, .int .u64 0, .int .u64 0] 79)).alloc (.cells #[.int .u64 0, .int .u64 0, .int .u64 0, .int .u64 0, .int .u64 0] 79)) _; rw [hv0])
  clear hv0
  refine (load_nm (w.heap.size + 3) w.heap.size a 23 v0 ra.1 ra.2 f3.an f0).mono ?_
  rintro e v1 ⟨rfl, q, k⟩
  replace f0 := f0.chg k (by simp)
  replace f1 := f1.chg k (by simp)
  replace f2 := f2.chg k (by simp)
  replace f4 := f4.chg k (by simp)
  clear f3
  have f3' := q
  clear q
  have hc1 := hc0.new k (by omega)
  clear hc0 k
  go_wp2_with fail
  refine (load_nm (w.heap.size + 4) (w.heap.size + 1) b 23 v1 rb.1 rb.2 f4.an f1).mono ?_
  rintro e v2 ⟨rfl, q, k⟩
  replace f0 := f0.chg k (by simp)
  replace f1 := f1.chg k (by simp)
  replace f2 := f2.chg k (by simp)
  replace f3' := f3'.chg k (by simp)
  clear f4
  have f4' := q
  clear q
  have hc2 := hc1.new k (by omega)
  clear hc1 k
  go_wp2_with fail
  refine (mul_nm (w.heap.size + 3) (w.heap.size + 3) (w.heap.size + 4) _ _ v2 f3'.an f3' f4').mono ?_
  rintro e v3 ⟨rfl, q, k⟩
  rw [← Int.mul_emod] at q
  replace f0 := f0.chg k (by simp)
  replace f1 := f1.chg k (by simp)
  replace f2 := f2.chg k (by simp)
  replace f4' := f4'.chg k (by simp)
  clear f3'
  have f3'' := q
  clear q
  have hc3 := hc2.new k (by omega)
  clear hc2 k
  go_wp2_with fail
  refine (bytes_nm (w.heap.size + 3) _ v3 f3'').mono ?_
  rintro e v4 ⟨rfl, q, k⟩
  replace f0 := f0.chg k (by simp)
  replace f1 := f1.chg k (by simp)
  replace f2 := f2.chg k (by simp)
  replace f4' := f4'.chg k (by simp)
  clear f3''
  have f3''' := q
  clear q
  have hc4 := hc3.new k (by omega)
  clear hc3 k
  go_wp2_with (refine wpList_store_row rfl 23 _ _ rfl (w.heap.size + 2) _ rfl rfl 23 _ f2 feInfo rfl (feC_one _) ?_)
  exact bodyPost_ret (results_cell_row Try.results14 _ _ (w.heap.size + 2) 23 (feC (a * b % P)) (0, 0) _ rfl (Blk.setRow f2 _) Try.underlying23 rfl feInfo) rfl ⟨rfl, hc4.setRowNew (by omega) _⟩
set_option maxHeartbeats 4000000 in
set_option maxRecDepth 100000 in
/-- Add: the sum. -/
theorem Add_fe (a b : Int) (ra : R256 a) (rb : R256 b) (w : World) :
    Calls Try.prog 11 #[fe a, fe b] w fun e w' => e = .returned (fe ((a + b) % P)) ∧ Chg w w' [] := by
  go_enter Try.func11, Try.ntmps11
  go_wp2_with fail
  have hc0 : Chg w (((((w.alloc (.cells (feC a) 23)).alloc (.cells (feC b) 23)).alloc (.cells z32 23)).alloc (.cells #[.int .u64 0, .int .u64 0, .int .u64 0, .int .u64 0, .int .u64 0] 79)).alloc (.cells #[.int .u64 0, .int .u64 0, .int .u64 0, .int .u64 0, .int .u64 0] 79)) [] := (((((Chg.refl w []).alloc (.cells (feC a) 23)).alloc (.cells (feC b) 23)).alloc (.cells z32 23)).alloc (.cells #[.int .u64 0, .int .u64 0, .int .u64 0, .int .u64 0, .int .u64 0] 79)).alloc (.cells #[.int .u64 0, .int .u64 0, .int .u64 0, .int .u64 0, .int .u64 0] 79)
  have f0 : Blk (((((w.alloc (.cells (feC a) 23)).alloc (.cells (feC b) 23)).alloc (.cells z32 23)).alloc (.cells #[.int .u64 0, .int .u64 0, .int .u64 0, .int .u64 0, .int .u64 0] 79)).alloc (.cells #[.int .u64 0, .int .u64 0, .int .u64 0, .int .u64 0, .int .u64 0] 79)) w.heap.size (feC a) 23 := by have h := (((((Blk.new w (feC a) 23).alloc (.cells (feC b) 23)).alloc (.cells z32 23)).alloc (.cells #[.int .u64 0, .int .u64 0, .int .u64 0, .int .u64 0, .int .u64 0] 79)).alloc (.cells #[.int .u64 0, .int .u64 0, .int .u64 0, .int .u64 0, .int .u64 0] 79)); simpa using h
  have f1 : Blk (((((w.alloc (.cells (feC a) 23)).alloc (.cells (feC b) 23)).alloc (.cells z32 23)).alloc (.cells #[.int .u64 0, .int .u64 0, .int .u64 0, .int .u64 0, .int .u64 0] 79)).alloc (.cells #[.int .u64 0, .int .u64 0, .int .u64 0, .int .u64 0, .int .u64 0] 79)) (w.heap.size + 1) (feC b) 23 := by have h := ((((Blk.new (w.alloc (.cells (feC a) 23)) (feC b) 23).alloc (.cells z32 23)).alloc (.cells #[.int .u64 0, .int .u64 0, .int .u64 0, .int .u64 0, .int .u64 0] 79)).alloc (.cells #[.int .u64 0, .int .u64 0, .int .u64 0, .int .u64 0, .int .u64 0] 79)); simpa using h
  have f2 : Blk (((((w.alloc (.cells (feC a) 23)).alloc (.cells (feC b) 23)).alloc (.cells z32 23)).alloc (.cells #[.int .u64 0, .int .u64 0, .int .u64 0, .int .u64 0, .int .u64 0] 79)).alloc (.cells #[.int .u64 0, .int .u64 0, .int .u64 0, .int .u64 0, .int .u64 0] 79)) (w.heap.size + 2) z32 23 := by have h := (((Blk.new ((w.alloc (.cells (feC a) 23)).alloc (.cells (feC b) 23)) z32 23).alloc (.cells #[.int .u64 0, .int .u64 0, .int .u64 0, .int .u64 0, .int .u64 0] 79)).alloc (.cells #[.int .u64 0, .int .u64 0, .int .u64 0, .int .u64 0, .int .u64 0] 79)); simpa using h
  have f3 : Nm (((((w.alloc (.cells (feC a) 23)).alloc (.cells (feC b) 23)).alloc (.cells z32 23)).alloc (.cells #[.int .u64 0, .int .u64 0, .int .u64 0, .int .u64 0, .int .u64 0] 79)).alloc (.cells #[.int .u64 0, .int .u64 0, .int .u64 0, .int .u64 0, .int .u64 0] 79)) (w.heap.size + 3) 0 := by have h := ((Nm.new (((w.alloc (.cells (feC a) 23)).alloc (.cells (feC b) 23)).alloc (.cells z32 23))).alloc (.cells #[.int .u64 0, .int .u64 0, .int .u64 0, .int .u64 0, .int .u64 0] 79)); simpa using h
  have f4 : Nm (((((w.alloc (.cells (feC a) 23)).alloc (.cells (feC b) 23)).alloc (.cells z32 23)).alloc (.cells #[.int .u64 0, .int .u64 0, .int .u64 0, .int .u64 0, .int .u64 0] 79)).alloc (.cells #[.int .u64 0, .int .u64 0, .int .u64 0, .int .u64 0, .int .u64 0] 79)) (w.heap.size + 4) 0 := by have h := (Nm.new ((((w.alloc (.cells (feC a) 23)).alloc (.cells (feC b) 23)).alloc (.cells z32 23)).alloc (.cells #[.int .u64 0, .int .u64 0, .int .u64 0, .int .u64 0, .int .u64 0] 79))); simpa using h
  generalize hv0 : (((((w.alloc (.cells (feC a) 23)).alloc (.cells (feC b) 23)).alloc (.cells z32 23)).alloc (.cells #[.int .u64 0, .int .u64 0, .int .u64 0, .int .u64 0, .int .u64 0] 79)).alloc (.cells #[.int .u64 0, .int .u64 0, .int .u64 0, .int .u64 0, .int .u64 0] 79)) = v0 at hc0 f0 f1 f2 f3 f4
  try (change Calls Try.prog _ _ (((((w.alloc (.cells (feC a) 23)).alloc (.cells (feC b) 23)).alloc (.cells z32 23)).alloc (.cells #[.int .u64 0, .int .u64 0, .int .u64 0, .int .u64 0, .int .u64 0] 79)).alloc (.cells #[.int .u64 0, .int .u64 0, .int .u64 0, .int .u64 0, .int .u64 0] 79)) _; rw [hv0])
  clear hv0
  refine (load_nm (w.heap.size + 3) w.heap.size a 23 v0 ra.1 ra.2 f3.an f0).mono ?_
  rintro e v1 ⟨rfl, q, k⟩
  replace f0 := f0.chg k (by simp)
  replace f1 := f1.chg k (by simp)
  replace f2 := f2.chg k (by simp)
  replace f4 := f4.chg k (by simp)
  clear f3
  have f3' := q
  clear q
  have hc1 := hc0.new k (by omega)
  clear hc0 k
  go_wp2_with fail
  refine (load_nm (w.heap.size + 4) (w.heap.size + 1) b 23 v1 rb.1 rb.2 f4.an f1).mono ?_
  rintro e v2 ⟨rfl, q, k⟩
  replace f0 := f0.chg k (by simp)
  replace f1 := f1.chg k (by simp)
  replace f2 := f2.chg k (by simp)
  replace f3' := f3'.chg k (by simp)
  clear f4
  have f4' := q
  clear q
  have hc2 := hc1.new k (by omega)
  clear hc1 k
  go_wp2_with fail
  refine (add_nm (w.heap.size + 3) (w.heap.size + 3) (w.heap.size + 4) _ _ v2 f3'.an f3' f4').mono ?_
  rintro e v3 ⟨rfl, q, k⟩
  rw [← Int.add_emod] at q
  replace f0 := f0.chg k (by simp)
  replace f1 := f1.chg k (by simp)
  replace f2 := f2.chg k (by simp)
  replace f4' := f4'.chg k (by simp)
  clear f3'
  have f3'' := q
  clear q
  have hc3 := hc2.new k (by omega)
  clear hc2 k
  go_wp2_with fail
  refine (bytes_nm (w.heap.size + 3) _ v3 f3'').mono ?_
  rintro e v4 ⟨rfl, q, k⟩
  replace f0 := f0.chg k (by simp)
  replace f1 := f1.chg k (by simp)
  replace f2 := f2.chg k (by simp)
  replace f4' := f4'.chg k (by simp)
  clear f3''
  have f3''' := q
  clear q
  have hc4 := hc3.new k (by omega)
  clear hc3 k
  go_wp2_with (refine wpList_store_row rfl 23 _ _ rfl (w.heap.size + 2) _ rfl rfl 23 _ f2 feInfo rfl (feC_one _) ?_)
  exact bodyPost_ret (results_cell_row Try.results11 _ _ (w.heap.size + 2) 23 (feC ((a + b) % P)) (0, 0) _ rfl (Blk.setRow f2 _) Try.underlying23 rfl feInfo) rfl ⟨rfl, hc4.setRowNew (by omega) _⟩
set_option maxHeartbeats 4000000 in
set_option maxRecDepth 100000 in
/-- Sub: the difference. -/
theorem Sub_fe (a b : Int) (ra : R256 a) (rb : R256 b) (w : World) :
    Calls Try.prog 12 #[fe a, fe b] w fun e w' => e = .returned (fe ((a - b) % P)) ∧ Chg w w' [] := by
  go_enter Try.func12, Try.ntmps12
  go_wp2_with fail
  have hc0 : Chg w (((((w.alloc (.cells (feC a) 23)).alloc (.cells (feC b) 23)).alloc (.cells z32 23)).alloc (.cells #[.int .u64 0, .int .u64 0, .int .u64 0, .int .u64 0, .int .u64 0] 79)).alloc (.cells #[.int .u64 0, .int .u64 0, .int .u64 0, .int .u64 0, .int .u64 0] 79)) [] := (((((Chg.refl w []).alloc (.cells (feC a) 23)).alloc (.cells (feC b) 23)).alloc (.cells z32 23)).alloc (.cells #[.int .u64 0, .int .u64 0, .int .u64 0, .int .u64 0, .int .u64 0] 79)).alloc (.cells #[.int .u64 0, .int .u64 0, .int .u64 0, .int .u64 0, .int .u64 0] 79)
  have f0 : Blk (((((w.alloc (.cells (feC a) 23)).alloc (.cells (feC b) 23)).alloc (.cells z32 23)).alloc (.cells #[.int .u64 0, .int .u64 0, .int .u64 0, .int .u64 0, .int .u64 0] 79)).alloc (.cells #[.int .u64 0, .int .u64 0, .int .u64 0, .int .u64 0, .int .u64 0] 79)) w.heap.size (feC a) 23 := by have h := (((((Blk.new w (feC a) 23).alloc (.cells (feC b) 23)).alloc (.cells z32 23)).alloc (.cells #[.int .u64 0, .int .u64 0, .int .u64 0, .int .u64 0, .int .u64 0] 79)).alloc (.cells #[.int .u64 0, .int .u64 0, .int .u64 0, .int .u64 0, .int .u64 0] 79)); simpa using h
  have f1 : Blk (((((w.alloc (.cells (feC a) 23)).alloc (.cells (feC b) 23)).alloc (.cells z32 23)).alloc (.cells #[.int .u64 0, .int .u64 0, .int .u64 0, .int .u64 0, .int .u64 0] 79)).alloc (.cells #[.int .u64 0, .int .u64 0, .int .u64 0, .int .u64 0, .int .u64 0] 79)) (w.heap.size + 1) (feC b) 23 := by have h := ((((Blk.new (w.alloc (.cells (feC a) 23)) (feC b) 23).alloc (.cells z32 23)).alloc (.cells #[.int .u64 0, .int .u64 0, .int .u64 0, .int .u64 0, .int .u64 0] 79)).alloc (.cells #[.int .u64 0, .int .u64 0, .int .u64 0, .int .u64 0, .int .u64 0] 79)); simpa using h
  have f2 : Blk (((((w.alloc (.cells (feC a) 23)).alloc (.cells (feC b) 23)).alloc (.cells z32 23)).alloc (.cells #[.int .u64 0, .int .u64 0, .int .u64 0, .int .u64 0, .int .u64 0] 79)).alloc (.cells #[.int .u64 0, .int .u64 0, .int .u64 0, .int .u64 0, .int .u64 0] 79)) (w.heap.size + 2) z32 23 := by have h := (((Blk.new ((w.alloc (.cells (feC a) 23)).alloc (.cells (feC b) 23)) z32 23).alloc (.cells #[.int .u64 0, .int .u64 0, .int .u64 0, .int .u64 0, .int .u64 0] 79)).alloc (.cells #[.int .u64 0, .int .u64 0, .int .u64 0, .int .u64 0, .int .u64 0] 79)); simpa using h
  have f3 : Nm (((((w.alloc (.cells (feC a) 23)).alloc (.cells (feC b) 23)).alloc (.cells z32 23)).alloc (.cells #[.int .u64 0, .int .u64 0, .int .u64 0, .int .u64 0, .int .u64 0] 79)).alloc (.cells #[.int .u64 0, .int .u64 0, .int .u64 0, .int .u64 0, .int .u64 0] 79)) (w.heap.size + 3) 0 := by have h := ((Nm.new (((w.alloc (.cells (feC a) 23)).alloc (.cells (feC b) 23)).alloc (.cells z32 23))).alloc (.cells #[.int .u64 0, .int .u64 0, .int .u64 0, .int .u64 0, .int .u64 0] 79)); simpa using h
  have f4 : Nm (((((w.alloc (.cells (feC a) 23)).alloc (.cells (feC b) 23)).alloc (.cells z32 23)).alloc (.cells #[.int .u64 0, .int .u64 0, .int .u64 0, .int .u64 0, .int .u64 0] 79)).alloc (.cells #[.int .u64 0, .int .u64 0, .int .u64 0, .int .u64 0, .int .u64 0] 79)) (w.heap.size + 4) 0 := by have h := (Nm.new ((((w.alloc (.cells (feC a) 23)).alloc (.cells (feC b) 23)).alloc (.cells z32 23)).alloc (.cells #[.int .u64 0, .int .u64 0, .int .u64 0, .int .u64 0, .int .u64 0] 79))); simpa using h
  generalize hv0 : (((((w.alloc (.cells (feC a) 23)).alloc (.cells (feC b) 23)).alloc (.cells z32 23)).alloc (.cells #[.int .u64 0, .int .u64 0, .int .u64 0, .int .u64 0, .int .u64 0] 79)).alloc (.cells #[.int .u64 0, .int .u64 0, .int .u64 0, .int .u64 0, .int .u64 0] 79)) = v0 at hc0 f0 f1 f2 f3 f4
  try (change Calls Try.prog _ _ (((((w.alloc (.cells (feC a) 23)).alloc (.cells (feC b) 23)).alloc (.cells z32 23)).alloc (.cells #[.int .u64 0, .int .u64 0, .int .u64 0, .int .u64 0, .int .u64 0] 79)).alloc (.cells #[.int .u64 0, .int .u64 0, .int .u64 0, .int .u64 0, .int .u64 0] 79)) _; rw [hv0])
  clear hv0
  refine (load_nm (w.heap.size + 3) w.heap.size a 23 v0 ra.1 ra.2 f3.an f0).mono ?_
  rintro e v1 ⟨rfl, q, k⟩
  replace f0 := f0.chg k (by simp)
  replace f1 := f1.chg k (by simp)
  replace f2 := f2.chg k (by simp)
  replace f4 := f4.chg k (by simp)
  clear f3
  have f3' := q
  clear q
  have hc1 := hc0.new k (by omega)
  clear hc0 k
  go_wp2_with fail
  refine (load_nm (w.heap.size + 4) (w.heap.size + 1) b 23 v1 rb.1 rb.2 f4.an f1).mono ?_
  rintro e v2 ⟨rfl, q, k⟩
  replace f0 := f0.chg k (by simp)
  replace f1 := f1.chg k (by simp)
  replace f2 := f2.chg k (by simp)
  replace f3' := f3'.chg k (by simp)
  clear f4
  have f4' := q
  clear q
  have hc2 := hc1.new k (by omega)
  clear hc1 k
  go_wp2_with fail
  refine (sub_nm (w.heap.size + 3) (w.heap.size + 3) (w.heap.size + 4) _ _ v2 f3'.an f3' f4').mono ?_
  rintro e v3 ⟨rfl, q, k⟩
  rw [← Int.sub_emod] at q
  replace f0 := f0.chg k (by simp)
  replace f1 := f1.chg k (by simp)
  replace f2 := f2.chg k (by simp)
  replace f4' := f4'.chg k (by simp)
  clear f3'
  have f3'' := q
  clear q
  have hc3 := hc2.new k (by omega)
  clear hc2 k
  go_wp2_with fail
  refine (bytes_nm (w.heap.size + 3) _ v3 f3'').mono ?_
  rintro e v4 ⟨rfl, q, k⟩
  replace f0 := f0.chg k (by simp)
  replace f1 := f1.chg k (by simp)
  replace f2 := f2.chg k (by simp)
  replace f4' := f4'.chg k (by simp)
  clear f3''
  have f3''' := q
  clear q
  have hc4 := hc3.new k (by omega)
  clear hc3 k
  go_wp2_with (refine wpList_store_row rfl 23 _ _ rfl (w.heap.size + 2) _ rfl rfl 23 _ f2 feInfo rfl (feC_one _) ?_)
  exact bodyPost_ret (results_cell_row Try.results12 _ _ (w.heap.size + 2) 23 (feC ((a - b) % P)) (0, 0) _ rfl (Blk.setRow f2 _) Try.underlying23 rfl feInfo) rfl ⟨rfl, hc4.setRowNew (by omega) _⟩
set_option maxHeartbeats 4000000 in
set_option maxRecDepth 100000 in
/-- Square. -/
theorem Square_fe (a : Int) (ra : R256 a) (w : World) :
    Calls Try.prog 24 #[fe a] w fun e w' => e = .returned (fe (a * a % P)) ∧ Chg w w' [] := by
  go_enter Try.func24, Try.ntmps24
  go_wp2_with fail
  have hc0 : Chg w (((w.alloc (.cells (feC a) 23)).alloc (.cells z32 23)).alloc (.cells #[.int .u64 0, .int .u64 0, .int .u64 0, .int .u64 0, .int .u64 0] 79)) [] := (((Chg.refl w []).alloc (.cells (feC a) 23)).alloc (.cells z32 23)).alloc (.cells #[.int .u64 0, .int .u64 0, .int .u64 0, .int .u64 0, .int .u64 0] 79)
  have f0 : Blk (((w.alloc (.cells (feC a) 23)).alloc (.cells z32 23)).alloc (.cells #[.int .u64 0, .int .u64 0, .int .u64 0, .int .u64 0, .int .u64 0] 79)) w.heap.size (feC a) 23 := by have h := (((Blk.new w (feC a) 23).alloc (.cells z32 23)).alloc (.cells #[.int .u64 0, .int .u64 0, .int .u64 0, .int .u64 0, .int .u64 0] 79)); simpa using h
  have f1 : Blk (((w.alloc (.cells (feC a) 23)).alloc (.cells z32 23)).alloc (.cells #[.int .u64 0, .int .u64 0, .int .u64 0, .int .u64 0, .int .u64 0] 79)) (w.heap.size + 1) z32 23 := by have h := ((Blk.new (w.alloc (.cells (feC a) 23)) z32 23).alloc (.cells #[.int .u64 0, .int .u64 0, .int .u64 0, .int .u64 0, .int .u64 0] 79)); simpa using h
  have f2 : Nm (((w.alloc (.cells (feC a) 23)).alloc (.cells z32 23)).alloc (.cells #[.int .u64 0, .int .u64 0, .int .u64 0, .int .u64 0, .int .u64 0] 79)) (w.heap.size + 2) 0 := by have h := (Nm.new ((w.alloc (.cells (feC a) 23)).alloc (.cells z32 23))); simpa using h
  generalize hv0 : (((w.alloc (.cells (feC a) 23)).alloc (.cells z32 23)).alloc (.cells #[.int .u64 0, .int .u64 0, .int .u64 0, .int .u64 0, .int .u64 0] 79)) = v0 at hc0 f0 f1 f2
  try (change Calls Try.prog _ _ (((w.alloc (.cells (feC a) 23)).alloc (.cells z32 23)).alloc (.cells #[.int .u64 0, .int .u64 0, .int .u64 0, .int .u64 0, .int .u64 0] 79)) _; rw [hv0])
  clear hv0
  refine (load_nm (w.heap.size + 2) w.heap.size a 23 v0 ra.1 ra.2 f2.an f0).mono ?_
  rintro e v1 ⟨rfl, q, k⟩
  replace f0 := f0.chg k (by simp)
  replace f1 := f1.chg k (by simp)
  clear f2
  have f2' := q
  clear q
  have hc1 := hc0.new k (by omega)
  clear hc0 k
  go_wp2_with fail
  refine (square_nm (w.heap.size + 2) (w.heap.size + 2) _ v1 f2'.an f2').mono ?_
  rintro e v2 ⟨rfl, q, k⟩
  rw [← Int.mul_emod] at q
  replace f0 := f0.chg k (by simp)
  replace f1 := f1.chg k (by simp)
  clear f2'
  have f2'' := q
  clear q
  have hc2 := hc1.new k (by omega)
  clear hc1 k
  go_wp2_with fail
  refine (bytes_nm (w.heap.size + 2) _ v2 f2'').mono ?_
  rintro e v3 ⟨rfl, q, k⟩
  replace f0 := f0.chg k (by simp)
  replace f1 := f1.chg k (by simp)
  clear f2''
  have f2''' := q
  clear q
  have hc3 := hc2.new k (by omega)
  clear hc2 k
  go_wp2_with (refine wpList_store_row rfl 23 _ _ rfl (w.heap.size + 1) _ rfl rfl 23 _ f1 feInfo rfl (feC_one _) ?_)
  exact bodyPost_ret (results_cell_row Try.results24 _ _ (w.heap.size + 1) 23 (feC (a * a % P)) (0, 0) _ rfl (Blk.setRow f1 _) Try.underlying23 rfl feInfo) rfl ⟨rfl, hc3.setRowNew (by omega) _⟩
set_option maxHeartbeats 4000000 in
set_option maxRecDepth 100000 in
/-- canonical: the value itself. -/
theorem canonical_fe (a : Int) (ra : R256 a) (w : World) :
    Calls Try.prog 41 #[fe a] w fun e w' => e = .returned (fe (a % P)) ∧ Chg w w' [] := by
  go_enter Try.func41, Try.ntmps41
  go_wp2_with fail
  have hc0 : Chg w (((w.alloc (.cells (feC a) 23)).alloc (.cells z32 23)).alloc (.cells #[.int .u64 0, .int .u64 0, .int .u64 0, .int .u64 0, .int .u64 0] 79)) [] := (((Chg.refl w []).alloc (.cells (feC a) 23)).alloc (.cells z32 23)).alloc (.cells #[.int .u64 0, .int .u64 0, .int .u64 0, .int .u64 0, .int .u64 0] 79)
  have f0 : Blk (((w.alloc (.cells (feC a) 23)).alloc (.cells z32 23)).alloc (.cells #[.int .u64 0, .int .u64 0, .int .u64 0, .int .u64 0, .int .u64 0] 79)) w.heap.size (feC a) 23 := by have h := (((Blk.new w (feC a) 23).alloc (.cells z32 23)).alloc (.cells #[.int .u64 0, .int .u64 0, .int .u64 0, .int .u64 0, .int .u64 0] 79)); simpa using h
  have f1 : Blk (((w.alloc (.cells (feC a) 23)).alloc (.cells z32 23)).alloc (.cells #[.int .u64 0, .int .u64 0, .int .u64 0, .int .u64 0, .int .u64 0] 79)) (w.heap.size + 1) z32 23 := by have h := ((Blk.new (w.alloc (.cells (feC a) 23)) z32 23).alloc (.cells #[.int .u64 0, .int .u64 0, .int .u64 0, .int .u64 0, .int .u64 0] 79)); simpa using h
  have f2 : Nm (((w.alloc (.cells (feC a) 23)).alloc (.cells z32 23)).alloc (.cells #[.int .u64 0, .int .u64 0, .int .u64 0, .int .u64 0, .int .u64 0] 79)) (w.heap.size + 2) 0 := by have h := (Nm.new ((w.alloc (.cells (feC a) 23)).alloc (.cells z32 23))); simpa using h
  generalize hv0 : (((w.alloc (.cells (feC a) 23)).alloc (.cells z32 23)).alloc (.cells #[.int .u64 0, .int .u64 0, .int .u64 0, .int .u64 0, .int .u64 0] 79)) = v0 at hc0 f0 f1 f2
  try (change Calls Try.prog _ _ (((w.alloc (.cells (feC a) 23)).alloc (.cells z32 23)).alloc (.cells #[.int .u64 0, .int .u64 0, .int .u64 0, .int .u64 0, .int .u64 0] 79)) _; rw [hv0])
  clear hv0
  refine (load_nm (w.heap.size + 2) w.heap.size a 23 v0 ra.1 ra.2 f2.an f0).mono ?_
  rintro e v1 ⟨rfl, q, k⟩
  replace f0 := f0.chg k (by simp)
  replace f1 := f1.chg k (by simp)
  clear f2
  have f2' := q
  clear q
  have hc1 := hc0.new k (by omega)
  clear hc0 k
  go_wp2_with fail
  refine (bytes_nm (w.heap.size + 2) _ v1 f2').mono ?_
  rintro e v2 ⟨rfl, q, k⟩
  replace f0 := f0.chg k (by simp)
  replace f1 := f1.chg k (by simp)
  clear f2'
  have f2'' := q
  clear q
  have hc2 := hc1.new k (by omega)
  clear hc1 k
  go_wp2_with (refine wpList_store_row rfl 23 _ _ rfl (w.heap.size + 1) _ rfl rfl 23 _ f1 feInfo rfl (feC_one _) ?_)
  exact bodyPost_ret (results_cell_row Try.results41 _ _ (w.heap.size + 1) 23 (feC (a % P)) (0, 0) _ rfl (Blk.setRow f1 _) Try.underlying23 rfl feInfo) rfl ⟨rfl, hc2.setRowNew (by omega) _⟩
set_option maxHeartbeats 4000000 in
set_option maxRecDepth 100000 in
/-- Invert: by Fermat. -/
theorem Invert_fe (a : Int) (ra : R256 a) (w : World) :
    Calls Try.prog 16 #[fe a] w fun e w' => e = .returned (fe (pw a 57896044618658097711785492504343953926634992332820282019728792003956564819947)) ∧ Chg w w' [] := by
  go_enter Try.func16, Try.ntmps16
  go_wp2_with fail
  have hc0 : Chg w (((w.alloc (.cells (feC a) 23)).alloc (.cells z32 23)).alloc (.cells #[.int .u64 0, .int .u64 0, .int .u64 0, .int .u64 0, .int .u64 0] 79)) [] := (((Chg.refl w []).alloc (.cells (feC a) 23)).alloc (.cells z32 23)).alloc (.cells #[.int .u64 0, .int .u64 0, .int .u64 0, .int .u64 0, .int .u64 0] 79)
  have f0 : Blk (((w.alloc (.cells (feC a) 23)).alloc (.cells z32 23)).alloc (.cells #[.int .u64 0, .int .u64 0, .int .u64 0, .int .u64 0, .int .u64 0] 79)) w.heap.size (feC a) 23 := by have h := (((Blk.new w (feC a) 23).alloc (.cells z32 23)).alloc (.cells #[.int .u64 0, .int .u64 0, .int .u64 0, .int .u64 0, .int .u64 0] 79)); simpa using h
  have f1 : Blk (((w.alloc (.cells (feC a) 23)).alloc (.cells z32 23)).alloc (.cells #[.int .u64 0, .int .u64 0, .int .u64 0, .int .u64 0, .int .u64 0] 79)) (w.heap.size + 1) z32 23 := by have h := ((Blk.new (w.alloc (.cells (feC a) 23)) z32 23).alloc (.cells #[.int .u64 0, .int .u64 0, .int .u64 0, .int .u64 0, .int .u64 0] 79)); simpa using h
  have f2 : Nm (((w.alloc (.cells (feC a) 23)).alloc (.cells z32 23)).alloc (.cells #[.int .u64 0, .int .u64 0, .int .u64 0, .int .u64 0, .int .u64 0] 79)) (w.heap.size + 2) 0 := by have h := (Nm.new ((w.alloc (.cells (feC a) 23)).alloc (.cells z32 23))); simpa using h
  generalize hv0 : (((w.alloc (.cells (feC a) 23)).alloc (.cells z32 23)).alloc (.cells #[.int .u64 0, .int .u64 0, .int .u64 0, .int .u64 0, .int .u64 0] 79)) = v0 at hc0 f0 f1 f2
  try (change Calls Try.prog _ _ (((w.alloc (.cells (feC a) 23)).alloc (.cells z32 23)).alloc (.cells #[.int .u64 0, .int .u64 0, .int .u64 0, .int .u64 0, .int .u64 0] 79)) _; rw [hv0])
  clear hv0
  refine (load_nm (w.heap.size + 2) w.heap.size a 23 v0 ra.1 ra.2 f2.an f0).mono ?_
  rintro e v1 ⟨rfl, q, k⟩
  replace f0 := f0.chg k (by simp)
  replace f1 := f1.chg k (by simp)
  clear f2
  have f2' := q
  clear q
  have hc1 := hc0.new k (by omega)
  clear hc0 k
  go_wp2_with fail
  have p1 := f2'
  rw [← pw_one a] at p1
  refine (invert_nm (w.heap.size + 2) (w.heap.size + 2) a v1 f2'.an p1).mono ?_
  rintro e v2 ⟨rfl, q, k⟩
  clear p1
  replace f0 := f0.chg k (by simp)
  replace f1 := f1.chg k (by simp)
  clear f2'
  have f2'' := q
  clear q
  have hc2 := hc1.new k (by omega)
  clear hc1 k
  go_wp2_with fail
  refine (bytes_nm (w.heap.size + 2) _ v2 f2'').mono ?_
  rintro e v3 ⟨rfl, q, k⟩
  replace f0 := f0.chg k (by simp)
  replace f1 := f1.chg k (by simp)
  clear f2''
  have f2''' := q
  clear q
  have hc3 := hc2.new k (by omega)
  clear hc2 k
  go_wp2_with (refine wpList_store_row rfl 23 _ _ rfl (w.heap.size + 1) _ rfl rfl 23 _ f1 feInfo rfl (feC_one _) ?_)
  exact bodyPost_ret (results_cell_row Try.results16 _ _ (w.heap.size + 1) 23 (feC (pw a 57896044618658097711785492504343953926634992332820282019728792003956564819947)) (0, 0) _ rfl (Blk.setRow f1 _) Try.underlying23 rfl feInfo) rfl ⟨rfl, hc3.setRowNew (by omega) _⟩
end Go.Proofs.Ytialljmkkichiab
