/- squares, grow. -/
import Derived.Test.YtialljmkkichiabNm
set_option linter.unusedVariables false
set_option linter.unusedSimpArgs false
set_option linter.unnecessarySimpa false
namespace Go.Proofs.Ytialljmkkichiab
open Go.RowKit N

theorem numInfo : (Try.prog.info? 79).map (·.size) = some 5 := by kernel_rfl

set_option maxHeartbeats 2000000 in
set_option maxRecDepth 100000 in
theorem squares_nm (z x : Nat) (n : Int) (c : Nat) (hc : c ≤ 1000) (w : World) (hz : An w z) (hx : Nm w x n) :
    Calls Try.prog 104 #[.pointer (some ⟨z, 0, none⟩), .pointer (some ⟨x, 0, none⟩), .int .i64 c] w fun e w' => e = .returned (.tuple #[]) ∧ Nm w' z (pw n (2 ^ c)) ∧ Chg w w' [z] := by
  obtain ⟨c0, c1, c2, c3, c4, hz⟩ := hz
  obtain ⟨a0, a1, a2, a3, a4, hx, hl⟩ := hx
  have hl2 := hl.2
  have HZ : Blk w z #[.int .u64 c0, .int .u64 c1, .int .u64 c2, .int .u64 c3, .int .u64 c4] 79 := hz
  have HX : Blk w x #[.int .u64 a0, .int .u64 a1, .int .u64 a2, .int .u64 a3, .int .u64 a4] 79 := hx
  have HN : Nm (w.setRow z #[.int .u64 a0, .int .u64 a1, .int .u64 a2, .int .u64 a3, .int .u64 a4]) z (pw n (2 ^ 0)) := by
    refine ⟨a0, a1, a2, a3, a4, HZ.setRow _, hl.1, ?_⟩
    rw [Nat.pow_zero, pw_one, ← hl2, Int.emod_emod_of_dvd _ (Int.dvd_refl P)]
  have HC : Chg w (w.setRow z #[.int .u64 a0, .int .u64 a1, .int .u64 a2, .int .u64 a3, .int .u64 a4]) [z] := Chg.of (gb_setRow (gb_refl w _) _)
  have ho : (#[.int .u64 a0, .int .u64 a1, .int .u64 a2, .int .u64 a3, .int .u64 a4] : Array Value).all (·.oneCell') = true := by simp [Value.oneCell']
  clear hz hx hl hl2
  go_enter Try.func104, Try.ntmps104
  go_wp2_with (first | (refine wpList_load_row rfl 79 _ rfl x rfl 79 _ (0, 0) _ HX Try.underlying79 rfl numInfo ?_) | (refine wpList_store_row rfl 79 _ _ rfl z _ rfl rfl 79 _ HZ numInfo rfl ho ?_))
  clear HZ HX
  generalize w.setRow z #[.int .u64 a0, .int .u64 a1, .int .u64 a2, .int .u64 a3, .int .u64 a4] = w1 at *
  go_loopw [12] (fun t wr => ∃ k : Nat, k ≤ c ∧ t = .int .i64 k ∧ Nm wr z (pw n (2 ^ k)) ∧ Chg w wr [z]) (fun t _ => c - (intOf t).toNat)
  case atStart => exact ⟨0, Nat.zero_le _, rfl, HN, HC⟩
  case round =>
    obtain ⟨k, hk, rfl, hn, hch⟩ := hrel
    by_cases hlt : k < c
    · go_wp2_with (go_at_call 43; refine (square_nm z z _ _ hn.an hn).mono ?_; rintro e w2 ⟨rfl, hn2, hc2⟩)
      go_roundw
      case rel => exact ⟨k + 1, by omega, by go_num, by rw [pw_mul n (2 ^ k) (2 ^ k) (2 ^ (k + 1)) (by rw [Nat.pow_succ]; omega)] at hn2; exact hn2, hch.trans1 hc2⟩
      case measure => simp [intOf]; omega
    · go_wp2
      go_end0
      have : k = c := by omega
      subst this
      exact ⟨rfl, hn, hch⟩

set_option maxHeartbeats 2000000 in
set_option maxRecDepth 100000 in
theorem grow_nm (z x y : Nat) (n m : Int) (c : Nat) (hc : c ≤ 1000) (w : World) (hz : An w z) (hx : Nm w x n) (hy : Nm w y m) :
    Calls Try.prog 78 #[.pointer (some ⟨z, 0, none⟩), .pointer (some ⟨x, 0, none⟩), .int .i64 c, .pointer (some ⟨y, 0, none⟩)] w fun e w' => e = .returned (.tuple #[]) ∧ Nm w' z (pw n (2 ^ c) * m % P) ∧ Chg w w' [z] := by
  have hzl := hz.lt; have hyl := hy.lt
  go_enter Try.func78, Try.ntmps78
  go_wp2_with fail
  refine (squares_nm w.heap.size x n c hc _ (An.new w) (hx.alloc _)).mono ?_
  rintro e w1 ⟨rfl, h1, k1⟩
  go_wp2_with fail
  refine (mul_nm z w.heap.size y _ m w1 ((hz.alloc _).chg k1 (by simp; omega)) h1 ((hy.alloc _).chg k1 (by simp; omega))).mono ?_
  rintro e w2 ⟨rfl, h2, k2⟩
  go_wp2
  go_end0
  exact ⟨rfl, h2, (((Chg.refl w [z]).alloc _).new k1 (Nat.le_refl _)).trans1 k2⟩
end Go.Proofs.Ytialljmkkichiab
