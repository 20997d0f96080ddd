/- The functions of the package scalar over 32 bytes: Add, Sub, Mul, MulAdd, Neg, Canonical. -/
import Derived.Test.YtoafcaieifjoiaaGreatLoad
set_option linter.unusedVariables false
set_option linter.unusedSimpArgs false
set_option linter.unnecessarySimpa false
namespace Go.Proofs.YtoafcaieifjoiaaGreat
open Go.RowKit N

theorem r256_rl {n : Int} (h : RL n) : R256 n := by unfold RL at h; unfold R256; omega
theorem r256_mod (n : Int) : R256 (n % L) := r256_rl (rl_mod n)
theorem sub_nm (z x y : Nat) (n m : Int) (rn : RL n) (rm : RL m) (w : World) (hz : An w z) (hx : NumAt w x n) (hy : NumAt w y m) :
    Calls Tryz.prog 108 #[.pointer (some ⟨z, 0, none⟩), .pointer (some ⟨x, 0, none⟩), .pointer (some ⟨y, 0, none⟩)] w fun e w' => e = .returned (.tuple #[]) ∧ NumAt w' z ((n - m) % L) ∧ Chg w w' [z] :=
  (sub_any z x y n m rn rm w hz hx hy).mono fun _ _ ⟨a, b, c⟩ => ⟨a, b, Chg.of c⟩
set_option maxHeartbeats 4000000 in
set_option maxRecDepth 100000 in
theorem Sub_s (a b : Int) (ra : R256 a) (rb : R256 b) (w : World) :
    Calls Tryz.prog 83 #[fe a, fe b] w fun e w' => e = .returned (fe ((a - b) % L)) ∧ Chg w w' [] := by
  go_enter Tryz.func83, Tryz.ntmps83
  go_wp2_with fail
  have hc : Chg w (((((w.alloc (.cells (feC a) 24)).alloc (.cells (feC b) 24)).alloc (.cells z32 24)).alloc (.cells #[.int .u64 0, .int .u64 0, .int .u64 0, .int .u64 0] 162)).alloc (.cells #[.int .u64 0, .int .u64 0, .int .u64 0, .int .u64 0] 162)) [] := ((((((Chg.refl w []).alloc (.cells (feC a) 24)).alloc (.cells (feC b) 24)).alloc (.cells z32 24)).alloc (.cells #[.int .u64 0, .int .u64 0, .int .u64 0, .int .u64 0] 162)).alloc (.cells #[.int .u64 0, .int .u64 0, .int .u64 0, .int .u64 0] 162))
  have f0 : Blk (((((w.alloc (.cells (feC a) 24)).alloc (.cells (feC b) 24)).alloc (.cells z32 24)).alloc (.cells #[.int .u64 0, .int .u64 0, .int .u64 0, .int .u64 0] 162)).alloc (.cells #[.int .u64 0, .int .u64 0, .int .u64 0, .int .u64 0] 162)) w.heap.size (feC a) 24 := by have h := (((((Blk.new w (feC a) 24).alloc (.cells (feC b) 24)).alloc (.cells z32 24)).alloc (.cells #[.int .u64 0, .int .u64 0, .int .u64 0, .int .u64 0] 162)).alloc (.cells #[.int .u64 0, .int .u64 0, .int .u64 0, .int .u64 0] 162)); simpa using h
  have f1 : Blk (((((w.alloc (.cells (feC a) 24)).alloc (.cells (feC b) 24)).alloc (.cells z32 24)).alloc (.cells #[.int .u64 0, .int .u64 0, .int .u64 0, .int .u64 0] 162)).alloc (.cells #[.int .u64 0, .int .u64 0, .int .u64 0, .int .u64 0] 162)) (w.heap.size + 1) (feC b) 24 := by have h := ((((Blk.new (w.alloc (.cells (feC a) 24)) (feC b) 24).alloc (.cells z32 24)).alloc (.cells #[.int .u64 0, .int .u64 0, .int .u64 0, .int .u64 0] 162)).alloc (.cells #[.int .u64 0, .int .u64 0, .int .u64 0, .int .u64 0] 162)); simpa using h
  have f2 : Blk (((((w.alloc (.cells (feC a) 24)).alloc (.cells (feC b) 24)).alloc (.cells z32 24)).alloc (.cells #[.int .u64 0, .int .u64 0, .int .u64 0, .int .u64 0] 162)).alloc (.cells #[.int .u64 0, .int .u64 0, .int .u64 0, .int .u64 0] 162)) (w.heap.size + 2) z32 24 := by have h := (((Blk.new ((w.alloc (.cells (feC a) 24)).alloc (.cells (feC b) 24)) z32 24).alloc (.cells #[.int .u64 0, .int .u64 0, .int .u64 0, .int .u64 0] 162)).alloc (.cells #[.int .u64 0, .int .u64 0, .int .u64 0, .int .u64 0] 162)); simpa using h
  have f3 : NumAt (((((w.alloc (.cells (feC a) 24)).alloc (.cells (feC b) 24)).alloc (.cells z32 24)).alloc (.cells #[.int .u64 0, .int .u64 0, .int .u64 0, .int .u64 0] 162)).alloc (.cells #[.int .u64 0, .int .u64 0, .int .u64 0, .int .u64 0] 162)) (w.heap.size + 3) 0 := by have h := ((NumAt.new (((w.alloc (.cells (feC a) 24)).alloc (.cells (feC b) 24)).alloc (.cells z32 24))).alloc (.cells #[.int .u64 0, .int .u64 0, .int .u64 0, .int .u64 0] 162)); simpa using h
  have f4 : NumAt (((((w.alloc (.cells (feC a) 24)).alloc (.cells (feC b) 24)).alloc (.cells z32 24)).alloc (.cells #[.int .u64 0, .int .u64 0, .int .u64 0, .int .u64 0] 162)).alloc (.cells #[.int .u64 0, .int .u64 0, .int .u64 0, .int .u64 0] 162)) (w.heap.size + 4) 0 := by have h := (NumAt.new ((((w.alloc (.cells (feC a) 24)).alloc (.cells (feC b) 24)).alloc (.cells z32 24)).alloc (.cells #[.int .u64 0, .int .u64 0, .int .u64 0, .int .u64 0] 162))); simpa using h
  generalize hv0 : (((((w.alloc (.cells (feC a) 24)).alloc (.cells (feC b) 24)).alloc (.cells z32 24)).alloc (.cells #[.int .u64 0, .int .u64 0, .int .u64 0, .int .u64 0] 162)).alloc (.cells #[.int .u64 0, .int .u64 0, .int .u64 0, .int .u64 0] 162)) = v0 at hc f0 f1 f2 f3 f4
  try (change Calls Tryz.prog _ _ (((((w.alloc (.cells (feC a) 24)).alloc (.cells (feC b) 24)).alloc (.cells z32 24)).alloc (.cells #[.int .u64 0, .int .u64 0, .int .u64 0, .int .u64 0] 162)).alloc (.cells #[.int .u64 0, .int .u64 0, .int .u64 0, .int .u64 0] 162)) _; rw [hv0])
  clear hv0
  refine (load_any (w.heap.size + 3) w.heap.size a ra (by omega) v0 f3.an f0).mono ?_
  rintro e v1 ⟨rfl, q, k⟩
  replace f0 := f0.chg k (by simp)
  replace f1 := f1.chg k (by simp)
  replace f2 := f2.chg k (by simp)
  replace f4 := f4.chg k (by simp)
  replace hc := hc.new k (by omega)
  clear f3 k
  have f3 := q
  clear q
  go_wp2_with fail
  refine (load_any (w.heap.size + 4) (w.heap.size + 1) b rb (by omega) v1 f4.an f1).mono ?_
  rintro e v2 ⟨rfl, q, k⟩
  replace f0 := f0.chg k (by simp)
  replace f1 := f1.chg k (by simp)
  replace f2 := f2.chg k (by simp)
  replace f3 := f3.chg k (by simp)
  replace hc := hc.new k (by omega)
  clear f4 k
  have f4 := q
  clear q
  go_wp2_with fail
  refine (sub_nm (w.heap.size + 3) (w.heap.size + 3) (w.heap.size + 4) _ _ (rl_mod _) (rl_mod _) v2 f3.an f3 f4).mono ?_
  rintro e v3 ⟨rfl, q, k⟩
  rw [← Int.sub_emod] at q
  replace f0 := f0.chg k (by simp)
  replace f1 := f1.chg k (by simp)
  replace f2 := f2.chg k (by simp)
  replace f4 := f4.chg k (by simp)
  replace hc := hc.new k (by omega)
  clear f3 k
  have f3 := q
  clear q
  go_wp2_with fail
  refine (bytes_any (w.heap.size + 3) _ (r256_mod _) v3 f3).mono ?_
  rintro e v4 ⟨rfl, k⟩
  replace f0 := f0.chg k (by simp)
  replace f1 := f1.chg k (by simp)
  replace f2 := f2.chg k (by simp)
  replace f3 := f3.chg k (by simp)
  replace f4 := f4.chg k (by simp)
  replace hc := hc.trans1 k
  clear k
  go_wp2_with (refine wpList_store_row rfl 24 _ _ rfl (w.heap.size + 2) _ rfl rfl 24 _ f2 feInfo rfl (feC_one _) ?_)
  exact bodyPost_ret (results_cell_row Tryz.results83 _ _ (w.heap.size + 2) 24 (feC ((a - b) % L)) (0, 0) _ rfl (Blk.setRow f2 _) Tryz.underlying24 rfl feInfo) rfl ⟨rfl, hc.setRowNew (by omega) _⟩
set_option maxHeartbeats 4000000 in
set_option maxRecDepth 100000 in
theorem Mul_s (a b : Int) (ra : R256 a) (rb : R256 b) (w : World) :
    Calls Tryz.prog 65 #[fe a, fe b] w fun e w' => e = .returned (fe ((a * b) % L)) ∧ Chg w w' [] := by
  go_enter Tryz.func65, Tryz.ntmps65
  go_wp2_with fail
  have hc : Chg w (((((w.alloc (.cells (feC a) 24)).alloc (.cells (feC b) 24)).alloc (.cells z32 24)).alloc (.cells #[.int .u64 0, .int .u64 0, .int .u64 0, .int .u64 0] 162)).alloc (.cells #[.int .u64 0, .int .u64 0, .int .u64 0, .int .u64 0] 162)) [] := ((((((Chg.refl w []).alloc (.cells (feC a) 24)).alloc (.cells (feC b) 24)).alloc (.cells z32 24)).alloc (.cells #[.int .u64 0, .int .u64 0, .int .u64 0, .int .u64 0] 162)).alloc (.cells #[.int .u64 0, .int .u64 0, .int .u64 0, .int .u64 0] 162))
  have f0 : Blk (((((w.alloc (.cells (feC a) 24)).alloc (.cells (feC b) 24)).alloc (.cells z32 24)).alloc (.cells #[.int .u64 0, .int .u64 0, .int .u64 0, .int .u64 0] 162)).alloc (.cells #[.int .u64 0, .int .u64 0, .int .u64 0, .int .u64 0] 162)) w.heap.size (feC a) 24 := by have h := (((((Blk.new w (feC a) 24).alloc (.cells (feC b) 24)).alloc (.cells z32 24)).alloc (.cells #[.int .u64 0, .int .u64 0, .int .u64 0, .int .u64 0] 162)).alloc (.cells #[.int .u64 0, .int .u64 0, .int .u64 0, .int .u64 0] 162)); simpa using h
  have f1 : Blk (((((w.alloc (.cells (feC a) 24)).alloc (.cells (feC b) 24)).alloc (.cells z32 24)).alloc (.cells #[.int .u64 0, .int .u64 0, .int .u64 0, .int .u64 0] 162)).alloc (.cells #[.int .u64 0, .int .u64 0, .int .u64 0, .int .u64 0] 162)) (w.heap.size + 1) (feC b) 24 := by have h := ((((Blk.new (w.alloc (.cells (feC a) 24)) (feC b) 24).alloc (.cells z32 24)).alloc (.cells #[.int .u64 0, .int .u64 0, .int .u64 0, .int .u64 0] 162)).alloc (.cells #[.int .u64 0, .int .u64 0, .int .u64 0, .int .u64 0] 162)); simpa using h
  have f2 : Blk (((((w.alloc (.cells (feC a) 24)).alloc (.cells (feC b) 24)).alloc (.cells z32 24)).alloc (.cells #[.int .u64 0, .int .u64 0, .int .u64 0, .int .u64 0] 162)).alloc (.cells #[.int .u64 0, .int .u64 0, .int .u64 0, .int .u64 0] 162)) (w.heap.size + 2) z32 24 := by have h := (((Blk.new ((w.alloc (.cells (feC a) 24)).alloc (.cells (feC b) 24)) z32 24).alloc (.cells #[.int .u64 0, .int .u64 0, .int .u64 0, .int .u64 0] 162)).alloc (.cells #[.int .u64 0, .int .u64 0, .int .u64 0, .int .u64 0] 162)); simpa using h
  have f3 : NumAt (((((w.alloc (.cells (feC a) 24)).alloc (.cells (feC b) 24)).alloc (.cells z32 24)).alloc (.cells #[.int .u64 0, .int .u64 0, .int .u64 0, .int .u64 0] 162)).alloc (.cells #[.int .u64 0, .int .u64 0, .int .u64 0, .int .u64 0] 162)) (w.heap.size + 3) 0 := by have h := ((NumAt.new (((w.alloc (.cells (feC a) 24)).alloc (.cells (feC b) 24)).alloc (.cells z32 24))).alloc (.cells #[.int .u64 0, .int .u64 0, .int .u64 0, .int .u64 0] 162)); simpa using h
  have f4 : NumAt (((((w.alloc (.cells (feC a) 24)).alloc (.cells (feC b) 24)).alloc (.cells z32 24)).alloc (.cells #[.int .u64 0, .int .u64 0, .int .u64 0, .int .u64 0] 162)).alloc (.cells #[.int .u64 0, .int .u64 0, .int .u64 0, .int .u64 0] 162)) (w.heap.size + 4) 0 := by have h := (NumAt.new ((((w.alloc (.cells (feC a) 24)).alloc (.cells (feC b) 24)).alloc (.cells z32 24)).alloc (.cells #[.int .u64 0, .int .u64 0, .int .u64 0, .int .u64 0] 162))); simpa using h
  generalize hv0 : (((((w.alloc (.cells (feC a) 24)).alloc (.cells (feC b) 24)).alloc (.cells z32 24)).alloc (.cells #[.int .u64 0, .int .u64 0, .int .u64 0, .int .u64 0] 162)).alloc (.cells #[.int .u64 0, .int .u64 0, .int .u64 0, .int .u64 0] 162)) = v0 at hc f0 f1 f2 f3 f4
  try (change Calls Tryz.prog _ _ (((((w.alloc (.cells (feC a) 24)).alloc (.cells (feC b) 24)).alloc (.cells z32 24)).alloc (.cells #[.int .u64 0, .int .u64 0, .int .u64 0, .int .u64 0] 162)).alloc (.cells #[.int .u64 0, .int .u64 0, .int .u64 0, .int .u64 0] 162)) _; rw [hv0])
  clear hv0
  refine (load_any (w.heap.size + 3) w.heap.size a ra (by omega) v0 f3.an f0).mono ?_
  rintro e v1 ⟨rfl, q, k⟩
  replace f0 := f0.chg k (by simp)
  replace f1 := f1.chg k (by simp)
  replace f2 := f2.chg k (by simp)
  replace f4 := f4.chg k (by simp)
  replace hc := hc.new k (by omega)
  clear f3 k
  have f3 := q
  clear q
  go_wp2_with fail
  refine (load_any (w.heap.size + 4) (w.heap.size + 1) b rb (by omega) v1 f4.an f1).mono ?_
  rintro e v2 ⟨rfl, q, k⟩
  replace f0 := f0.chg k (by simp)
  replace f1 := f1.chg k (by simp)
  replace f2 := f2.chg k (by simp)
  replace f3 := f3.chg k (by simp)
  replace hc := hc.new k (by omega)
  clear f4 k
  have f4 := q
  clear q
  go_wp2_with fail
  refine (mul_any (w.heap.size + 3) (w.heap.size + 3) (w.heap.size + 4) _ _ (rl_mod _) (rl_mod _) v2 f3.an f3 f4).mono ?_
  rintro e v3 ⟨rfl, q, k⟩
  rw [← Int.mul_emod] at q
  replace f0 := f0.chg k (by simp)
  replace f1 := f1.chg k (by simp)
  replace f2 := f2.chg k (by simp)
  replace f4 := f4.chg k (by simp)
  replace hc := hc.new k (by omega)
  clear f3 k
  have f3 := q
  clear q
  go_wp2_with fail
  refine (bytes_any (w.heap.size + 3) _ (r256_mod _) v3 f3).mono ?_
  rintro e v4 ⟨rfl, k⟩
  replace f0 := f0.chg k (by simp)
  replace f1 := f1.chg k (by simp)
  replace f2 := f2.chg k (by simp)
  replace f3 := f3.chg k (by simp)
  replace f4 := f4.chg k (by simp)
  replace hc := hc.trans1 k
  clear k
  go_wp2_with (refine wpList_store_row rfl 24 _ _ rfl (w.heap.size + 2) _ rfl rfl 24 _ f2 feInfo rfl (feC_one _) ?_)
  exact bodyPost_ret (results_cell_row Tryz.results65 _ _ (w.heap.size + 2) 24 (feC ((a * b) % L)) (0, 0) _ rfl (Blk.setRow f2 _) Tryz.underlying24 rfl feInfo) rfl ⟨rfl, hc.setRowNew (by omega) _⟩
theorem muladd_mod (a b c : Int) : (c % L + a % L * (b % L)) % L = (a * b + c) % L := by
  rw [Int.add_emod, Int.emod_emod_of_dvd _ (Int.dvd_refl L), ← Int.mul_emod, ← Int.add_emod, Int.add_comm]
set_option maxHeartbeats 4000000 in
set_option maxRecDepth 100000 in
theorem MulAdd_s (a b c : Int) (ra : R256 a) (rb : R256 b) (rc : R256 c) (w : World) :
    Calls Tryz.prog 47 #[fe a, fe b, fe c] w fun e w' => e = .returned (fe ((a * b + c) % L)) ∧ Chg w w' [] := by
  go_enter Tryz.func47, Tryz.ntmps47
  go_wp2_with fail
  have hc : Chg w (((((((w.alloc (.cells (feC a) 24)).alloc (.cells (feC b) 24)).alloc (.cells (feC c) 24)).alloc (.cells z32 24)).alloc (.cells #[.int .u64 0, .int .u64 0, .int .u64 0, .int .u64 0] 162)).alloc (.cells #[.int .u64 0, .int .u64 0, .int .u64 0, .int .u64 0] 162)).alloc (.cells #[.int .u64 0, .int .u64 0, .int .u64 0, .int .u64 0] 162)) [] := ((((((((Chg.refl w []).alloc (.cells (feC a) 24)).alloc (.cells (feC b) 24)).alloc (.cells (feC c) 24)).alloc (.cells z32 24)).alloc (.cells #[.int .u64 0, .int .u64 0, .int .u64 0, .int .u64 0] 162)).alloc (.cells #[.int .u64 0, .int .u64 0, .int .u64 0, .int .u64 0] 162)).alloc (.cells #[.int .u64 0, .int .u64 0, .int .u64 0, .int .u64 0] 162))
  have f0 : Blk (((((((w.alloc (.cells (feC a) 24)).alloc (.cells (feC b) 24)).alloc (.cells (feC c) 24)).alloc (.cells z32 24)).alloc (.cells #[.int .u64 0, .int .u64 0, .int .u64 0, .int .u64 0] 162)).alloc (.cells #[.int .u64 0, .int .u64 0, .int .u64 0, .int .u64 0] 162)).alloc (.cells #[.int .u64 0, .int .u64 0, .int .u64 0, .int .u64 0] 162)) w.heap.size (feC a) 24 := by have h := (((((((Blk.new w (feC a) 24).alloc (.cells (feC b) 24)).alloc (.cells (feC c) 24)).alloc (.cells z32 24)).alloc (.cells #[.int .u64 0, .int .u64 0, .int .u64 0, .int .u64 0] 162)).alloc (.cells #[.int .u64 0, .int .u64 0, .int .u64 0, .int .u64 0] 162)).alloc (.cells #[.int .u64 0, .int .u64 0, .int .u64 0, .int .u64 0] 162)); simpa using h
  have f1 : Blk (((((((w.alloc (.cells (feC a) 24)).alloc (.cells (feC b) 24)).alloc (.cells (feC c) 24)).alloc (.cells z32 24)).alloc (.cells #[.int .u64 0, .int .u64 0, .int .u64 0, .int .u64 0] 162)).alloc (.cells #[.int .u64 0, .int .u64 0, .int .u64 0, .int .u64 0] 162)).alloc (.cells #[.int .u64 0, .int .u64 0, .int .u64 0, .int .u64 0] 162)) (w.heap.size + 1) (feC b) 24 := by have h := ((((((Blk.new (w.alloc (.cells (feC a) 24)) (feC b) 24).alloc (.cells (feC c) 24)).alloc (.cells z32 24)).alloc (.cells #[.int .u64 0, .int .u64 0, .int .u64 0, .int .u64 0] 162)).alloc (.cells #[.int .u64 0, .int .u64 0, .int .u64 0, .int .u64 0] 162)).alloc (.cells #[.int .u64 0, .int .u64 0, .int .u64 0, .int .u64 0] 162)); simpa using h
  have f2 : Blk (((((((w.alloc (.cells (feC a) 24)).alloc (.cells (feC b) 24)).alloc (.cells (feC c) 24)).alloc (.cells z32 24)).alloc (.cells #[.int .u64 0, .int .u64 0, .int .u64 0, .int .u64 0] 162)).alloc (.cells #[.int .u64 0, .int .u64 0, .int .u64 0, .int .u64 0] 162)).alloc (.cells #[.int .u64 0, .int .u64 0, .int .u64 0, .int .u64 0] 162)) (w.heap.size + 2) (feC c) 24 := by have h := (((((Blk.new ((w.alloc (.cells (feC a) 24)).alloc (.cells (feC b) 24)) (feC c) 24).alloc (.cells z32 24)).alloc (.cells #[.int .u64 0, .int .u64 0, .int .u64 0, .int .u64 0] 162)).alloc (.cells #[.int .u64 0, .int .u64 0, .int .u64 0, .int .u64 0] 162)).alloc (.cells #[.int .u64 0, .int .u64 0, .int .u64 0, .int .u64 0] 162)); simpa using h
  have f3 : Blk (((((((w.alloc (.cells (feC a) 24)).alloc (.cells (feC b) 24)).alloc (.cells (feC c) 24)).alloc (.cells z32 24)).alloc (.cells #[.int .u64 0, .int .u64 0, .int .u64 0, .int .u64 0] 162)).alloc (.cells #[.int .u64 0, .int .u64 0, .int .u64 0, .int .u64 0] 162)).alloc (.cells #[.int .u64 0, .int .u64 0, .int .u64 0, .int .u64 0] 162)) (w.heap.size + 3) z32 24 := by have h := ((((Blk.new (((w.alloc (.cells (feC a) 24)).alloc (.cells (feC b) 24)).alloc (.cells (feC c) 24)) z32 24).alloc (.cells #[.int .u64 0, .int .u64 0, .int .u64 0, .int .u64 0] 162)).alloc (.cells #[.int .u64 0, .int .u64 0, .int .u64 0, .int .u64 0] 162)).alloc (.cells #[.int .u64 0, .int .u64 0, .int .u64 0, .int .u64 0] 162)); simpa using h
  have f4 : NumAt (((((((w.alloc (.cells (feC a) 24)).alloc (.cells (feC b) 24)).alloc (.cells (feC c) 24)).alloc (.cells z32 24)).alloc (.cells #[.int .u64 0, .int .u64 0, .int .u64 0, .int .u64 0] 162)).alloc (.cells #[.int .u64 0, .int .u64 0, .int .u64 0, .int .u64 0] 162)).alloc (.cells #[.int .u64 0, .int .u64 0, .int .u64 0, .int .u64 0] 162)) (w.heap.size + 4) 0 := by have h := (((NumAt.new ((((w.alloc (.cells (feC a) 24)).alloc (.cells (feC b) 24)).alloc (.cells (feC c) 24)).alloc (.cells z32 24))).alloc (.cells #[.int .u64 0, .int .u64 0, .int .u64 0, .int .u64 0] 162)).alloc (.cells #[.int .u64 0, .int .u64 0, .int .u64 0, .int .u64 0] 162)); simpa using h
  have f5 : NumAt (((((((w.alloc (.cells (feC a) 24)).alloc (.cells (feC b) 24)).alloc (.cells (feC c) 24)).alloc (.cells z32 24)).alloc (.cells #[.int .u64 0, .int .u64 0, .int .u64 0, .int .u64 0] 162)).alloc (.cells #[.int .u64 0, .int .u64 0, .int .u64 0, .int .u64 0] 162)).alloc (.cells #[.int .u64 0, .int .u64 0, .int .u64 0, .int .u64 0] 162)) (w.heap.size + 5) 0 := by have h := ((NumAt.new (((((w.alloc (.cells (feC a) 24)).alloc (.cells (feC b) 24)).alloc (.cells (feC c) 24)).alloc (.cells z32 24)).alloc (.cells #[.int .u64 0, .int .u64 0, .int .u64 0, .int .u64 0] 162))).alloc (.cells #[.int .u64 0, .int .u64 0, .int .u64 0, .int .u64 0] 162)); simpa using h
  have f6 : NumAt (((((((w.alloc (.cells (feC a) 24)).alloc (.cells (feC b) 24)).alloc (.cells (feC c) 24)).alloc (.cells z32 24)).alloc (.cells #[.int .u64 0, .int .u64 0, .int .u64 0, .int .u64 0] 162)).alloc (.cells #[.int .u64 0, .int .u64 0, .int .u64 0, .int .u64 0] 162)).alloc (.cells #[.int .u64 0, .int .u64 0, .int .u64 0, .int .u64 0] 162)) (w.heap.size + 6) 0 := by have h := (NumAt.new ((((((w.alloc (.cells (feC a) 24)).alloc (.cells (feC b) 24)).alloc (.cells (feC c) 24)).alloc (.cells z32 24)).alloc (.cells #[.int .u64 0, .int .u64 0, .int .u64 0, .int .u64 0] 162)).alloc (.cells #[.int .u64 0, .int .u64 0, .int .u64 0, .int .u64 0] 162))); simpa using h
  generalize hv0 : (((((((w.alloc (.cells (feC a) 24)).alloc (.cells (feC b) 24)).alloc (.cells (feC c) 24)).alloc (.cells z32 24)).alloc (.cells #[.int .u64 0, .int .u64 0, .int .u64 0, .int .u64 0] 162)).alloc (.cells #[.int .u64 0, .int .u64 0, .int .u64 0, .int .u64 0] 162)).alloc (.cells #[.int .u64 0, .int .u64 0, .int .u64 0, .int .u64 0] 162)) = v0 at hc f0 f1 f2 f3 f4 f5 f6
  try (change Calls Tryz.prog _ _ (((((((w.alloc (.cells (feC a) 24)).alloc (.cells (feC b) 24)).alloc (.cells (feC c) 24)).alloc (.cells z32 24)).alloc (.cells #[.int .u64 0, .int .u64 0, .int .u64 0, .int .u64 0] 162)).alloc (.cells #[.int .u64 0, .int .u64 0, .int .u64 0, .int .u64 0] 162)).alloc (.cells #[.int .u64 0, .int .u64 0, .int .u64 0, .int .u64 0] 162)) _; rw [hv0])
  clear hv0
  refine (load_any (w.heap.size + 4) w.heap.size a ra (by omega) v0 f4.an f0).mono ?_
  rintro e v1 ⟨rfl, q, k⟩
  replace f0 := f0.chg k (by simp)
  replace f1 := f1.chg k (by simp)
  replace f2 := f2.chg k (by simp)
  replace f3 := f3.chg k (by simp)
  replace f5 := f5.chg k (by simp)
  replace f6 := f6.chg k (by simp)
  replace hc := hc.new k (by omega)
  clear f4 k
  have f4 := q
  clear q
  go_wp2_with fail
  refine (load_any (w.heap.size + 5) (w.heap.size + 1) b rb (by omega) v1 f5.an f1).mono ?_
  rintro e v2 ⟨rfl, q, k⟩
  replace f0 := f0.chg k (by simp)
  replace f1 := f1.chg k (by simp)
  replace f2 := f2.chg k (by simp)
  replace f3 := f3.chg k (by simp)
  replace f4 := f4.chg k (by simp)
  replace f6 := f6.chg k (by simp)
  replace hc := hc.new k (by omega)
  clear f5 k
  have f5 := q
  clear q
  go_wp2_with fail
  refine (load_any (w.heap.size + 6) (w.heap.size + 2) c rc (by omega) v2 f6.an f2).mono ?_
  rintro e v3 ⟨rfl, q, k⟩
  replace f0 := f0.chg k (by simp)
  replace f1 := f1.chg k (by simp)
  replace f2 := f2.chg k (by simp)
  replace f3 := f3.chg k (by simp)
  replace f4 := f4.chg k (by simp)
  replace f5 := f5.chg k (by simp)
  replace hc := hc.new k (by omega)
  clear f6 k
  have f6 := q
  clear q
  go_wp2_with fail
  refine (mulAdd_any (w.heap.size + 4) (w.heap.size + 4) (w.heap.size + 5) (w.heap.size + 6) _ _ _ (rl_mod _) (rl_mod _) (rl_mod _) v3 f4.an f4 f5 f6).mono ?_
  rintro e v4 ⟨rfl, q, k⟩
  rw [muladd_mod] at q
  replace f0 := f0.chg k (by simp)
  replace f1 := f1.chg k (by simp)
  replace f2 := f2.chg k (by simp)
  replace f3 := f3.chg k (by simp)
  replace f5 := f5.chg k (by simp)
  replace f6 := f6.chg k (by simp)
  replace hc := hc.new k (by omega)
  clear f4 k
  have f4 := q
  clear q
  go_wp2_with fail
  refine (bytes_any (w.heap.size + 4) _ (r256_mod _) v4 f4).mono ?_
  rintro e v5 ⟨rfl, k⟩
  replace f0 := f0.chg k (by simp)
  replace f1 := f1.chg k (by simp)
  replace f2 := f2.chg k (by simp)
  replace f3 := f3.chg k (by simp)
  replace f4 := f4.chg k (by simp)
  replace f5 := f5.chg k (by simp)
  replace f6 := f6.chg k (by simp)
  replace hc := hc.trans1 k
  clear k
  go_wp2_with (refine wpList_store_row rfl 24 _ _ rfl (w.heap.size + 3) _ rfl rfl 24 _ f3 feInfo rfl (feC_one _) ?_)
  exact bodyPost_ret (results_cell_row Tryz.results47 _ _ (w.heap.size + 3) 24 (feC ((a * b + c) % L)) (0, 0) _ rfl (Blk.setRow f3 _) Tryz.underlying24 rfl feInfo) rfl ⟨rfl, hc.setRowNew (by omega) _⟩
end Go.Proofs.YtoafcaieifjoiaaGreat
