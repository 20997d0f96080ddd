/- The signed digits of a number, of a width: what they are. -/
import Derived.Test.YtcdgkhejbdlapabWin
set_option linter.unusedVariables false
set_option linter.unusedSimpArgs false
set_option linter.unnecessarySimpa false
namespace Go.Proofs.Ytcdgkhejbdlapab
open Go.RowKit N

/-- The digit of V, of width wd. -/
def sdg (wd V : Nat) : Int := if V % 2 = 1 then ((V % 2 ^ wd : Nat) : Int) - ((V % 2 ^ wd / 2 ^ (wd - 1) * 2 ^ wd : Nat) : Int) else 0
/-- What is left of V behind its digit, halved. -/
def snx (wd V : Nat) : Nat := if V % 2 = 1 then 2 ^ (wd - 1) * (V / 2 ^ wd + V % 2 ^ wd / 2 ^ (wd - 1)) else V / 2
def vn (wd n : Nat) : Nat → Nat
  | 0 => n
  | i + 1 => snx wd (vn wd n i)
/-- Digit i of n, of width wd. -/
def dn (wd n i : Nat) : Int := sdg wd (vn wd n i)
theorem snx_dbl (wd V : Nat) : snx wd (2 * V) = V ∧ sdg wd (2 * V) = 0 := by
  unfold snx sdg
  rw [if_neg (by omega), if_neg (by omega)]
  exact ⟨by omega, rfl⟩
theorem vn_run (wd n i K : Nat) : ∀ (m j : Nat), vn wd n i = 2 ^ (m + j) * K → vn wd n (i + j) = 2 ^ m * K ∧ ∀ k, k < j → dn wd n (i + k) = 0
  | m, 0, h => ⟨h, fun k hk => by omega⟩
  | m, j + 1, h => by
    obtain ⟨h1, h2⟩ := vn_run wd n i K (m + 1) j (by rw [h]; congr 2; omega)
    have e : 2 ^ (m + 1) * K = 2 * (2 ^ m * K) := by rw [Nat.pow_succ, Nat.mul_comm (2 ^ m) 2, Nat.mul_assoc]
    rw [e] at h1
    refine ⟨?_, fun k hk => ?_⟩
    · show snx wd (vn wd n (i + j)) = _
      rw [h1]; exact (snx_dbl wd _).1
    · by_cases hk' : k < j
      · exact h2 k hk'
      · rw [show k = j by omega]
        unfold dn
        rw [h1]; exact (snx_dbl wd _).2
theorem two_pow_two (wd : Nat) (h : 1 ≤ wd) : 2 ^ wd = 2 * 2 ^ (wd - 1) := by
  rw [← Nat.pow_succ', show (wd - 1).succ = wd by omega]
theorem win_par (n a wd c : Nat) (hw : 1 ≤ wd) : (win n a wd + c) % 2 = (n / 2 ^ a + c) % 2 := by
  unfold win
  have e := two_pow_two wd hw
  have h : n / 2 ^ a % 2 ^ wd % 2 = n / 2 ^ a % 2 := Nat.mod_mod_of_dvd _ ⟨_, e⟩
  omega
theorem naf_even (n a c wd : Nat) (hc : c ≤ 1) (hw : 1 ≤ wd) (hv : vn wd n a = n / 2 ^ a + c) (he : (win n a wd + c) % 2 = 0) : dn wd n a = 0 ∧ vn wd n (a + 1) = n / 2 ^ (a + 1) + c := by
  rw [win_par n a wd c hw] at he
  have e : n / 2 ^ (a + 1) = n / 2 ^ a / 2 := by rw [Nat.pow_succ, Nat.div_div_eq_div_mul]
  refine ⟨?_, ?_⟩
  · unfold dn sdg
    rw [hv, if_neg (by omega)]
  · show snx wd (vn wd n a) = _
    unfold snx
    rw [hv, if_neg (by omega), e]
    omega
theorem naf_odd (n a c wd D C : Nat) (hc : c ≤ 1) (hw : 1 ≤ wd) (hv : vn wd n a = n / 2 ^ a + c) (hD : win n a wd + c = D) (ho : D % 2 = 1) (hC : D / 2 ^ (wd - 1) = C) :
    D < 2 ^ wd ∧ C ≤ 1 ∧ dn wd n a = (D : Int) - ((C * 2 ^ wd : Nat) : Int) ∧ (∀ j, 1 ≤ j → j < wd → dn wd n (a + j) = 0) ∧ vn wd n (a + wd) = n / 2 ^ (a + wd) + C := by
  have hp := win_par n a wd c hw
  have hl := win_lt n a wd
  have e := two_pow_two wd hw
  obtain ⟨P, hP⟩ : ∃ P, P = 2 ^ (wd - 1) := ⟨_, rfl⟩
  have hPp : 0 < P := by rw [hP]; exact Nat.pow_pos (by decide)
  rw [← hP] at e hC
  have hlt : D < 2 ^ wd := by rw [e] at hl ⊢; omega
  have hC1 : C ≤ 1 := by
    rw [← hC]
    have : D / P < 2 := by rw [Nat.div_lt_iff_lt_mul hPp, ← e]; exact hlt
    omega
  have hM : n / 2 ^ a = 2 ^ wd * (n / 2 ^ (a + wd)) + win n a wd := by
    unfold win
    rw [Nat.pow_add, ← Nat.div_div_eq_div_mul]
    exact (Nat.div_add_mod _ _).symm
  have hV : vn wd n a = D + 2 ^ wd * (n / 2 ^ (a + wd)) := by rw [hv, hM]; omega
  have hr : vn wd n a % 2 ^ wd = D := by rw [hV, Nat.add_mul_mod_self_left, Nat.mod_eq_of_lt hlt]
  have hq : vn wd n a / 2 ^ wd = n / 2 ^ (a + wd) := by rw [hV, Nat.add_mul_div_left _ _ (by omega), Nat.div_eq_of_lt hlt, Nat.zero_add]
  have hodd : vn wd n a % 2 = 1 := by rw [hv]; omega
  have hn1 : vn wd n (a + 1) = 2 ^ (0 + (wd - 1)) * (n / 2 ^ (a + wd) + C) := by
    show snx wd (vn wd n a) = _
    unfold snx
    rw [if_pos hodd, hr, hq, ← hP, hC, Nat.zero_add, hP]
  obtain ⟨r1, r2⟩ := vn_run wd n (a + 1) _ 0 (wd - 1) hn1
  refine ⟨hlt, hC1, ?_, fun j h1 h2 => ?_, ?_⟩
  · unfold dn sdg
    rw [if_pos hodd, hr, ← hP, hC]
  · have := r2 (j - 1) (by omega)
    rw [show a + 1 + (j - 1) = a + j by omega] at this
    exact this
  · rw [show a + 1 + (wd - 1) = a + wd by omega, Nat.pow_zero, Nat.one_mul] at r1
    exact r1
end Go.Proofs.Ytcdgkhejbdlapab
