/- (*number).window: so many bits of a number, from a bit on. -/
import Derived.Test.YtcdgkhejbdlapabFun2
import Derived.Laws.BitsAllLaws
set_option linter.unusedVariables false
set_option linter.unusedSimpArgs false
set_option linter.unnecessarySimpa false
namespace Go.Proofs.Ytcdgkhejbdlapab
open Go.RowKit N

/-- wd bits of n, from bit a on. -/
def win (n a wd : Nat) : Nat := n / 2 ^ a % 2 ^ wd
theorem win_lt (n a wd : Nat) : win n a wd < 2 ^ wd := Nat.mod_lt _ (Nat.pow_pos (by decide))
theorem pow_split (s : Nat) (hs : s ≤ 64) : 2 ^ s * 2 ^ (64 - s) = 18446744073709551616 := by
  rw [← Nat.pow_add, show s + (64 - s) = 64 by omega]
theorem win_div (n q s : Nat) : n / 2 ^ (64 * q + s) = n / 18446744073709551616 ^ q / 2 ^ s := by
  rw [Nat.pow_add, Nat.pow_mul, ← Nat.div_div_eq_div_mul]
theorem mod_of_B (x k wd : Nat) (h : wd ≤ 64) : (x + 18446744073709551616 * k) % 2 ^ wd = x % 2 ^ wd := by
  rw [← pow_split wd h, Nat.mul_assoc, Nat.add_mul_mod_self_left]
/-- Two words put together. -/
theorem win_two (N s wd : Nat) (hs : s < 64) (hw : wd ≤ 8) :
    ((N % 18446744073709551616) / 2 ^ s ||| ((N / 18446744073709551616 % 18446744073709551616) * 2 ^ (64 - s) % 18446744073709551616)) % 2 ^ wd = N / 2 ^ s % 2 ^ wd := by
  have hB := pow_split s (by omega)
  obtain ⟨P, hP⟩ : ∃ P, P = 2 ^ s := ⟨_, rfl⟩
  obtain ⟨R, hR⟩ : ∃ R, R = 2 ^ (64 - s) := ⟨_, rfl⟩
  have hPp : 0 < P := by rw [hP]; exact Nat.pow_pos (by decide)
  have hRp : 0 < R := by rw [hR]; exact Nat.pow_pos (by decide)
  rw [← hP, ← hR] at hB
  have hlow : (N % 18446744073709551616) / P < R := by
    rw [Nat.div_lt_iff_lt_mul hPp, Nat.mul_comm, hB]
    exact Nat.mod_lt _ (by decide)
  have hhigh : (N / 18446744073709551616 % 18446744073709551616 * R % 18446744073709551616) % R = 0 := by
    rw [Nat.mod_mod_of_dvd _ ⟨P, by rw [← hB, Nat.mul_comm]⟩, Nat.mul_mod_left]
  rw [← hP, ← hR, Nat.or_comm, nat_join (64 - s) _ _ (by rw [← hR]; exact hhigh) (by rw [← hR]; exact hlow)]
  obtain ⟨X, hX⟩ : ∃ X, X = N % 18446744073709551616 := ⟨_, rfl⟩
  obtain ⟨M, hM⟩ : ∃ M, M = N / 18446744073709551616 := ⟨_, rfl⟩
  have e1 : N / P = X / P + R * M := by
    rw [show N = X + P * (R * M) from by rw [← Nat.mul_assoc, hB, hX, hM]; omega, Nat.add_mul_div_left _ _ hPp]
  obtain ⟨Y, hY⟩ : ∃ Y, Y = M % 18446744073709551616 := ⟨_, rfl⟩
  have e2 : M = Y + 18446744073709551616 * (M / 18446744073709551616) := by rw [hY]; omega
  have e3 : R * M = Y * R % 18446744073709551616 + 18446744073709551616 * (Y * R / 18446744073709551616 + R * (M / 18446744073709551616)) := by
    have h1 : R * M = Y * R + 18446744073709551616 * (R * (M / 18446744073709551616)) := by
      conv => lhs; rw [e2, Nat.mul_add, Nat.mul_comm R Y, Nat.mul_left_comm R]
    rw [h1, Nat.mul_add]
    omega
  rw [← hX, ← hM, ← hY, e1, e3, Nat.add_comm (Y * R % _), ← Nat.add_assoc, mod_of_B _ _ _ (by omega)]
theorem and_mask (x wd : Nat) : x &&& (2 ^ wd - 1) = x % 2 ^ wd := Nat.and_two_pow_sub_one_eq_mod x wd

theorem mask_nat (wd : Nat) (hw : wd ≤ 8) : IntKind.u64.wrap (IntKind.u64.wrap (2 ^ wd) - 1) = ((2 ^ wd - 1 : Nat) : Int) := by
  have h : wd = 0 ∨ wd = 1 ∨ wd = 2 ∨ wd = 3 ∨ wd = 4 ∨ wd = 5 ∨ wd = 6 ∨ wd = 7 ∨ wd = 8 := by omega
  rcases h with rfl | rfl | rfl | rfl | rfl | rfl | rfl | rfl | rfl <;> rw [IntKind.wrap_u64, IntKind.wrap_u64] <;> decide
theorem pow_le8 (wd : Nat) (hw : wd ≤ 8) : 2 ^ wd ≤ 256 := Nat.pow_le_pow_right (n := 2) (by decide) hw
theorem div_nat (X s : Nat) : (X : Int) / 2 ^ s = ((X / 2 ^ s : Nat) : Int) := by rw [Int.natCast_ediv, Int.natCast_pow]; rfl
theorem wrap64_fit (n : Int) (h : -9223372036854775808 ≤ n ∧ n ≤ 9223372036854775807) : wrap64 n = n := by unfold wrap64; omega
theorem win_fin (x wd : Nat) (hx : x < 18446744073709551616) (hw : wd ≤ 8) : wrap64 (bits .and .u64 (x : Int) (IntKind.u64.wrap (IntKind.u64.wrap (2 ^ wd) - 1))) = ((x % 2 ^ wd : Nat) : Int) := by
  have hp := pow_le8 wd hw
  have hl : x % 2 ^ wd < 2 ^ wd := Nat.mod_lt _ (Nat.pow_pos (by decide))
  rw [mask_nat wd hw, u64_and_nat _ _ hx (by omega), and_mask, wrap64_fit _ ⟨by omega, by omega⟩]
theorem win_fin2 (X Y s wd : Nat) (hX : X < 18446744073709551616) (hs : s < 64) (hw : wd ≤ 8) : wrap64 (bits .and .u64 (bits .or .u64 ((X : Int) / 2 ^ s) (IntKind.u64.wrap ((Y : Int) * 2 ^ (64 - s)))) (IntKind.u64.wrap (IntKind.u64.wrap (2 ^ wd) - 1))) = (((X / 2 ^ s ||| Y * 2 ^ (64 - s) % 18446744073709551616) % 2 ^ wd : Nat) : Int) := by
  have h2 : IntKind.u64.wrap ((Y : Int) * 2 ^ (64 - s)) = ((Y * 2 ^ (64 - s) % 18446744073709551616 : Nat) : Int) := by
    rw [IntKind.wrap_u64, Int.natCast_emod, Int.natCast_mul, Int.natCast_pow]
    rfl
  have h3 : X / 2 ^ s < 18446744073709551616 := Nat.lt_of_le_of_lt (Nat.div_le_self _ _) hX
  have h4 : Y * 2 ^ (64 - s) % 18446744073709551616 < 18446744073709551616 := Nat.mod_lt _ (by decide)
  rw [div_nat, h2, u64_or_nat _ _ h3 h4, win_fin _ wd (Nat.or_lt_two_pow (n := 64) h3 h4) hw]

set_option maxHeartbeats 4000000 in
set_option maxRecDepth 100000 in
theorem window_s (z n a wd : Nat) (hn : n < 115792089237316195423570985008687907853269984665640564039457584007913129639936) (ha : a < 256) (hw : wd ≤ 8) (w : World) (hz : NumAt w z (n : Int)) :
    Calls Try.prog 47 #[.pointer (some ⟨z, 0, none⟩), .int .i64 (a : Int), .int .i64 (wd : Int)] w fun e w' => e = .returned (.int .i64 ((win n a wd : Nat) : Int)) ∧ w' = w := by
  obtain ⟨q, s, hs, rfl⟩ : ∃ q s, s < 64 ∧ a = 64 * q + s := ⟨a / 64, a % 64, Nat.mod_lt _ (by decide), by omega⟩
  have hq : q < 4 := by omega
  have t1 : ((64 * q + s : Nat) : Int).tdiv 64 = (q : Int) := by rw [Int.tdiv_eq_ediv_of_nonneg (by omega)]; omega
  have t2 : ((64 * q + s : Nat) : Int).tmod 64 = (s : Int) := by rw [Int.tmod_eq_emod_of_nonneg (by omega)]; omega
  obtain ⟨N, hN⟩ : ∃ N, n / 18446744073709551616 ^ q = N := ⟨_, rfl⟩
  have hwin : win n (64 * q + s) wd = N / 2 ^ s % 2 ^ wd := by unfold win; rw [win_div, hN]
  have c0 : w.cell? ⟨z, q, none⟩ = some (.int .u64 ((N % 18446744073709551616 : Nat) : Int)) := by
    rw [Blk.cell hz, wd4_get _ q hq]
    unfold wrd
    rw [← hN, Int.natCast_emod, Int.natCast_ediv, Int.natCast_pow]
    rfl
  obtain ⟨X, hX⟩ : ∃ X, N % 18446744073709551616 = X := ⟨_, rfl⟩
  rw [hX] at c0
  rw [hwin]
  generalize ((64 * q + s : Nat) : Int) = A at *
  have iq0 : (0 : Int) ≤ (q : Int) := by omega
  have iq4 : (q : Int) < 4 := by omega
  go_enter Try.func47, Try.ntmps47
  by_cases h3 : q < 3
  · have i3 : (q : Int) < 3 := by omega
    have c1 : w.cell? ⟨z, q + 1, none⟩ = some (.int .u64 ((N / 18446744073709551616 % 18446744073709551616 : Nat) : Int)) := by
      rw [Blk.cell hz, wd4_get _ (q + 1) (by omega)]
      unfold wrd
      rw [← hN, Nat.div_div_eq_div_mul, ← Nat.pow_succ, Int.natCast_emod, Int.natCast_ediv, Int.natCast_pow]
      rfl
    obtain ⟨Y, hY⟩ : ∃ Y, N / 18446744073709551616 % 18446744073709551616 = Y := ⟨_, rfl⟩
    rw [hY] at c1
    go_wp2
    go_ret
    refine ⟨?_, rfl⟩
    rw [win_fin2 X Y s wd (by omega) hs hw, ← hX, ← hY, win_two N s wd hs hw]
    rfl
  · have i3 : ¬ (q : Int) < 3 := by omega
    have hNX : N = X := by
      have h2 : n / 18446744073709551616 ^ q < 18446744073709551616 := by
        rw [show q = 3 by omega]
        omega
      rw [hN] at h2
      omega
    subst hNX
    go_wp2
    go_ret
    refine ⟨?_, rfl⟩
    rw [div_nat, win_fin _ wd (Nat.lt_of_le_of_lt (Nat.div_le_self _ _) (by omega)) hw]
    rfl
end Go.Proofs.Ytcdgkhejbdlapab
