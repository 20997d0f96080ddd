/- rootCandidate: u v^3 (u v^7)^((p - 5) / 8). -/
import Derived.Test.YtialljmkkichiabFun3
set_option linter.unusedVariables false
set_option linter.unusedSimpArgs false
set_option linter.unnecessarySimpa false
namespace Go.Proofs.Ytialljmkkichiab
open Go.RowKit N

/-- u v^3 (u v^7) to (P - 5) / 8. -/
def rc (u v : Int) : Int := (u * v ^ 3 % P) * pw (u * v ^ 3 * (v * v * (v * v))) 7237005577332262213973186563042994240829374041602535252466099000494570602493 % P

set_option maxHeartbeats 4000000 in
set_option maxRecDepth 100000 in
/-- rootCandidate. -/
theorem rootCandidate_fe (u v : Int) (ru : R256 u) (rv : R256 v) (w : World) :
    Calls Try.prog 45 #[fe u, fe v] w fun e w' => e = .returned (fe (rc u v)) ∧ Chg w w' [] := by
  go_enter Try.func45, Try.ntmps45
  go_wp2_with fail
  have hc0 : Chg w ((((((w.alloc (.cells (feC u) 23)).alloc (.cells (feC v) 23)).alloc (.cells z32 23)).alloc (.cells #[.int .u64 0, .int .u64 0, .int .u64 0, .int .u64 0, .int .u64 0] 79)).alloc (.cells #[.int .u64 0, .int .u64 0, .int .u64 0, .int .u64 0, .int .u64 0] 79)).alloc (.cells #[.int .u64 0, .int .u64 0, .int .u64 0, .int .u64 0, .int .u64 0] 79)) [] := ((((((Chg.refl w []).alloc (.cells (feC u) 23)).alloc (.cells (feC v) 23)).alloc (.cells z32 23)).alloc (.cells #[.int .u64 0, .int .u64 0, .int .u64 0, .int .u64 0, .int .u64 0] 79)).alloc (.cells #[.int .u64 0, .int .u64 0, .int .u64 0, .int .u64 0, .int .u64 0] 79)).alloc (.cells #[.int .u64 0, .int .u64 0, .int .u64 0, .int .u64 0, .int .u64 0] 79)
  have f0 : Blk ((((((w.alloc (.cells (feC u) 23)).alloc (.cells (feC v) 23)).alloc (.cells z32 23)).alloc (.cells #[.int .u64 0, .int .u64 0, .int .u64 0, .int .u64 0, .int .u64 0] 79)).alloc (.cells #[.int .u64 0, .int .u64 0, .int .u64 0, .int .u64 0, .int .u64 0] 79)).alloc (.cells #[.int .u64 0, .int .u64 0, .int .u64 0, .int .u64 0, .int .u64 0] 79)) w.heap.size (feC u) 23 := by have h := ((((((Blk.new w (feC u) 23).alloc (.cells (feC v) 23)).alloc (.cells z32 23)).alloc (.cells #[.int .u64 0, .int .u64 0, .int .u64 0, .int .u64 0, .int .u64 0] 79)).alloc (.cells #[.int .u64 0, .int .u64 0, .int .u64 0, .int .u64 0, .int .u64 0] 79)).alloc (.cells #[.int .u64 0, .int .u64 0, .int .u64 0, .int .u64 0, .int .u64 0] 79)); simpa using h
  have f1 : Blk ((((((w.alloc (.cells (feC u) 23)).alloc (.cells (feC v) 23)).alloc (.cells z32 23)).alloc (.cells #[.int .u64 0, .int .u64 0, .int .u64 0, .int .u64 0, .int .u64 0] 79)).alloc (.cells #[.int .u64 0, .int .u64 0, .int .u64 0, .int .u64 0, .int .u64 0] 79)).alloc (.cells #[.int .u64 0, .int .u64 0, .int .u64 0, .int .u64 0, .int .u64 0] 79)) (w.heap.size + 1) (feC v) 23 := by have h := (((((Blk.new (w.alloc (.cells (feC u) 23)) (feC v) 23).alloc (.cells z32 23)).alloc (.cells #[.int .u64 0, .int .u64 0, .int .u64 0, .int .u64 0, .int .u64 0] 79)).alloc (.cells #[.int .u64 0, .int .u64 0, .int .u64 0, .int .u64 0, .int .u64 0] 79)).alloc (.cells #[.int .u64 0, .int .u64 0, .int .u64 0, .int .u64 0, .int .u64 0] 79)); simpa using h
  have f2 : Blk ((((((w.alloc (.cells (feC u) 23)).alloc (.cells (feC v) 23)).alloc (.cells z32 23)).alloc (.cells #[.int .u64 0, .int .u64 0, .int .u64 0, .int .u64 0, .int .u64 0] 79)).alloc (.cells #[.int .u64 0, .int .u64 0, .int .u64 0, .int .u64 0, .int .u64 0] 79)).alloc (.cells #[.int .u64 0, .int .u64 0, .int .u64 0, .int .u64 0, .int .u64 0] 79)) (w.heap.size + 2) z32 23 := by have h := ((((Blk.new ((w.alloc (.cells (feC u) 23)).alloc (.cells (feC v) 23)) z32 23).alloc (.cells #[.int .u64 0, .int .u64 0, .int .u64 0, .int .u64 0, .int .u64 0] 79)).alloc (.cells #[.int .u64 0, .int .u64 0, .int .u64 0, .int .u64 0, .int .u64 0] 79)).alloc (.cells #[.int .u64 0, .int .u64 0, .int .u64 0, .int .u64 0, .int .u64 0] 79)); simpa using h
  have f3 : Nm ((((((w.alloc (.cells (feC u) 23)).alloc (.cells (feC v) 23)).alloc (.cells z32 23)).alloc (.cells #[.int .u64 0, .int .u64 0, .int .u64 0, .int .u64 0, .int .u64 0] 79)).alloc (.cells #[.int .u64 0, .int .u64 0, .int .u64 0, .int .u64 0, .int .u64 0] 79)).alloc (.cells #[.int .u64 0, .int .u64 0, .int .u64 0, .int .u64 0, .int .u64 0] 79)) (w.heap.size + 3) 0 := by have h := (((Nm.new (((w.alloc (.cells (feC u) 23)).alloc (.cells (feC v) 23)).alloc (.cells z32 23))).alloc (.cells #[.int .u64 0, .int .u64 0, .int .u64 0, .int .u64 0, .int .u64 0] 79)).alloc (.cells #[.int .u64 0, .int .u64 0, .int .u64 0, .int .u64 0, .int .u64 0] 79)); simpa using h
  have f4 : Nm ((((((w.alloc (.cells (feC u) 23)).alloc (.cells (feC v) 23)).alloc (.cells z32 23)).alloc (.cells #[.int .u64 0, .int .u64 0, .int .u64 0, .int .u64 0, .int .u64 0] 79)).alloc (.cells #[.int .u64 0, .int .u64 0, .int .u64 0, .int .u64 0, .int .u64 0] 79)).alloc (.cells #[.int .u64 0, .int .u64 0, .int .u64 0, .int .u64 0, .int .u64 0] 79)) (w.heap.size + 4) 0 := by have h := ((Nm.new ((((w.alloc (.cells (feC u) 23)).alloc (.cells (feC v) 23)).alloc (.cells z32 23)).alloc (.cells #[.int .u64 0, .int .u64 0, .int .u64 0, .int .u64 0, .int .u64 0] 79))).alloc (.cells #[.int .u64 0, .int .u64 0, .int .u64 0, .int .u64 0, .int .u64 0] 79)); simpa using h
  have f5 : Nm ((((((w.alloc (.cells (feC u) 23)).alloc (.cells (feC v) 23)).alloc (.cells z32 23)).alloc (.cells #[.int .u64 0, .int .u64 0, .int .u64 0, .int .u64 0, .int .u64 0] 79)).alloc (.cells #[.int .u64 0, .int .u64 0, .int .u64 0, .int .u64 0, .int .u64 0] 79)).alloc (.cells #[.int .u64 0, .int .u64 0, .int .u64 0, .int .u64 0, .int .u64 0] 79)) (w.heap.size + 5) 0 := by have h := (Nm.new (((((w.alloc (.cells (feC u) 23)).alloc (.cells (feC v) 23)).alloc (.cells z32 23)).alloc (.cells #[.int .u64 0, .int .u64 0, .int .u64 0, .int .u64 0, .int .u64 0] 79)).alloc (.cells #[.int .u64 0, .int .u64 0, .int .u64 0, .int .u64 0, .int .u64 0] 79))); simpa using h
  generalize hv0 : ((((((w.alloc (.cells (feC u) 23)).alloc (.cells (feC v) 23)).alloc (.cells z32 23)).alloc (.cells #[.int .u64 0, .int .u64 0, .int .u64 0, .int .u64 0, .int .u64 0] 79)).alloc (.cells #[.int .u64 0, .int .u64 0, .int .u64 0, .int .u64 0, .int .u64 0] 79)).alloc (.cells #[.int .u64 0, .int .u64 0, .int .u64 0, .int .u64 0, .int .u64 0] 79)) = v0 at hc0 f0 f1 f2 f3 f4 f5
  try (change Calls Try.prog _ _ ((((((w.alloc (.cells (feC u) 23)).alloc (.cells (feC v) 23)).alloc (.cells z32 23)).alloc (.cells #[.int .u64 0, .int .u64 0, .int .u64 0, .int .u64 0, .int .u64 0] 79)).alloc (.cells #[.int .u64 0, .int .u64 0, .int .u64 0, .int .u64 0, .int .u64 0] 79)).alloc (.cells #[.int .u64 0, .int .u64 0, .int .u64 0, .int .u64 0, .int .u64 0] 79)) _; rw [hv0])
  clear hv0
  refine (load_nm (w.heap.size + 3) w.heap.size u 23 v0 ru.1 ru.2 f3.an f0).mono ?_
  rintro e v1 ⟨rfl, q, k⟩
  replace f0 := f0.chg k (by simp)
  replace f1 := f1.chg k (by simp)
  replace f2 := f2.chg k (by simp)
  replace f4 := f4.chg k (by simp)
  replace f5 := f5.chg k (by simp)
  clear f3
  have f3' := q
  clear q
  have hc1 := hc0.new k (by omega)
  clear hc0 k
  go_wp2_with fail
  refine (load_nm (w.heap.size + 4) (w.heap.size + 1) v 23 v1 rv.1 rv.2 f4.an f1).mono ?_
  rintro e v2 ⟨rfl, q, k⟩
  replace f0 := f0.chg k (by simp)
  replace f1 := f1.chg k (by simp)
  replace f2 := f2.chg k (by simp)
  replace f3' := f3'.chg k (by simp)
  replace f5 := f5.chg k (by simp)
  clear f4
  have f4' := q
  clear q
  have hc2 := hc1.new k (by omega)
  clear hc1 k
  go_wp2_with fail
  go_loopw [10] (fun t wr => ∃ k : Nat, k ≤ 3 ∧ t = .int .i64 k ∧ Nm wr (w.heap.size + 3) (u * v ^ k % P) ∧ Nm wr (w.heap.size + 4) (v % P) ∧ Nm wr (w.heap.size + 5) 0 ∧ Blk wr (w.heap.size + 2) z32 23 ∧ Chg w wr []) (fun t _ => 3 - (intOf t).toNat)
  case atStart => exact ⟨0, by decide, rfl, by rw [Int.pow_zero, Int.mul_one]; exact f3', f4', f5, f2, hc2⟩
  case round =>
    obtain ⟨k, hk, rfl, g3, g4, g5, g2, gc⟩ := hrel
    by_cases hlt : k < 3
    · go_wp2_with (go_at_call 40; refine (mul_nm (w.heap.size + 3) (w.heap.size + 3) (w.heap.size + 4) _ _ _ g3.an g3 g4).mono ?_; rintro e v9 ⟨rfl, q, kk⟩)
      rw [← Int.mul_emod, Int.mul_assoc, ← Int.pow_succ] at q
      go_roundw
      case rel => exact ⟨k + 1, by omega, by go_num, q, g4.chg kk (by simp), g5.chg kk (by simp), g2.chg kk (by simp), gc.new kk (by omega)⟩
      case measure => simp [intOf]; omega
    · have hk3 : k = 3 := by omega
      subst hk3
      clear hlt hk
      go_wp2_with fail
      refine (square_nm (w.heap.size + 4) (w.heap.size + 4) _ _ g4.an g4).mono ?_
      rintro e v3 ⟨rfl, h4, k3⟩
      rw [← Int.mul_emod] at h4
      go_wp2_with fail
      refine (square_nm (w.heap.size + 4) (w.heap.size + 4) _ _ h4.an h4).mono ?_
      rintro e v4 ⟨rfl, i4, k4⟩
      rw [← Int.mul_emod] at i4
      have c4 := (gc.new k3 (by omega)).new k4 (by omega)
      have i3 := (g3.chg k3 (by simp)).chg k4 (by simp)
      have i5 := (g5.chg k3 (by simp)).chg k4 (by simp)
      have i2 := (g2.chg k3 (by simp)).chg k4 (by simp)
      go_wp2_with fail
      refine (mul_nm (w.heap.size + 5) (w.heap.size + 3) (w.heap.size + 4) _ _ _ i5.an i3 i4).mono ?_
      rintro e v5 ⟨rfl, j5, k5⟩
      rw [← Int.mul_emod, ← pw_one] at j5
      have j3 := i3.chg k5 (by simp)
      have j2 := i2.chg k5 (by simp)
      go_wp2_with fail
      refine (eighth_nm (w.heap.size + 5) (w.heap.size + 5) _ _ j5.an j5).mono ?_
      rintro e v6 ⟨rfl, l5, k6⟩
      have l3 := j3.chg k6 (by simp)
      have l2 := j2.chg k6 (by simp)
      go_wp2_with fail
      refine (mul_nm (w.heap.size + 3) (w.heap.size + 3) (w.heap.size + 5) _ _ _ l3.an l3 l5).mono ?_
      rintro e v7 ⟨rfl, m3, k7⟩
      have m2 := l2.chg k7 (by simp)
      go_wp2_with fail
      refine (bytes_nm (w.heap.size + 3) _ _ m3).mono ?_
      rintro e v8 ⟨rfl, n3, k8⟩
      have n2 := m2.chg k8 (by simp)
      have c8 := (((c4.new k5 (by omega)).new k6 (by omega)).new k7 (by omega)).new k8 (by omega)
      clear c4 k3 k4 k5 k6 k7 k8 g3 g4 g5 g2 gc h4 i3 i4 i5 i2 j5 j3 j2 l5 l3 l2 m3 m2 n3
      go_wp2_with (refine wpList_store_row rfl 23 _ _ rfl (w.heap.size + 2) _ rfl rfl 23 _ n2 feInfo rfl (feC_one _) ?_)
      exact bodyPost_ret (results_cell_row Try.results45 _ _ (w.heap.size + 2) 23 (feC (rc u v)) (0, 0) _ rfl (Blk.setRow n2 _) Try.underlying23 rfl feInfo) rfl ⟨rfl, c8.setRowNew (by omega) _⟩
end Go.Proofs.Ytialljmkkichiab
