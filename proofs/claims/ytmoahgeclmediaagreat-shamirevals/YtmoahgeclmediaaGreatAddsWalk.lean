/- ScalarAdds: the walk. -/
import Derived.Test.YtmoahgeclmediaaGreatMgA
import Derived.Test.YtmoahgeclmediaaGreatRCmp
set_option linter.unusedVariables false
set_option linter.unusedSimpArgs false
set_option linter.unnecessarySimpa false
namespace Go.Proofs.YtmoahgeclmediaaGreat
open Go.RowKit N

theorem adI (n m : Nat) : ((adP n m : Nat) : Int) = ad (n : Int) (m : Int) := by unfold adP ad; rw [Int.natCast_emod, Int.natCast_add, LN_eq]
theorem mlI (n m : Nat) : ((mlP (n % LN) (m % LN) : Nat) : Int) = ml (n : Int) (m : Int) := by unfold mlP ml; rw [← Nat.mul_mod, Int.natCast_emod, Int.natCast_mul, LN_eq]
theorem ngI (n : Nat) : ((ngP n : Nat) : Int) = ng (n : Int) := by
  unfold ngP ng
  have h := Nat.le_of_lt (Nat.mod_lt n LN_pos)
  rw [Int.natCast_emod, Int.natCast_sub h, Int.natCast_emod, LN_eq, Int.sub_emod, Int.emod_self, Int.emod_emod_of_dvd _ (Int.dvd_refl L)]
  rw [show -(n : Int) = 0 - (n : Int) by omega, Int.sub_emod 0 (n : Int)]
  rfl
theorem of_r256 {a : Int} (ra : R256 a) : ∃ n : Nat, a = (n : Int) ∧ n < 115792089237316195423570985008687907853269984665640564039457584007913129639936 := by
  obtain ⟨n, rfl⟩ := Int.eq_ofNat_of_zero_le ra.1
  exact ⟨n, rfl, by unfold R256 at ra; omega⟩
theorem Add_q (a b : Int) (ra : R256 a) (rb : R256 b) (w : World) : Calls Tryz.prog 85 #[fe a, fe b] w fun e w' => e = .returned (fe (ad a b)) ∧ Chg w w' [] := by
  obtain ⟨n, rfl, hn⟩ := of_r256 ra
  obtain ⟨m, rfl, hm⟩ := of_r256 rb
  rw [← adI]
  exact Add_p n m hn hm w
theorem Neg_q (a : Int) (ra : R256 a) (w : World) : Calls Tryz.prog 120 #[fe a] w fun e w' => e = .returned (fe (ng a)) ∧ Chg w w' [] := by
  obtain ⟨n, rfl, hn⟩ := of_r256 ra
  rw [← ngI]
  exact Neg_r n hn w
theorem Sub_q (a b : Int) (ra : R256 a) (rb : R256 b) (w : World) : Calls Tryz.prog 103 #[fe a, fe b] w fun e w' => e = .returned (fe (sb a b)) ∧ Chg w w' [] := by
  obtain ⟨n, rfl, hn⟩ := of_r256 ra
  obtain ⟨m, rfl, hm⟩ := of_r256 rb
  have e : sb (n : Int) (m : Int) = ((adP n (ngP m) : Nat) : Int) := by
    rw [adI, ngI]
    unfold sb ad ng
    rw [m_add_r]
    rfl
  rw [e]
  exact Sub_r n m hn hm w
theorem Mul_q (a b : Int) (ra : R256 a) (rb : R256 b) (w : World) : Calls Tryz.prog 99 #[fe a, fe b] w fun e w' => e = .returned (fe (ml a b)) ∧ Chg w w' [] := by
  obtain ⟨n, rfl, hn⟩ := of_r256 ra
  obtain ⟨m, rfl, hm⟩ := of_r256 rb
  rw [← mlI]
  exact Mul_r n m hn hm w
theorem MulAdd_q (a b c : Int) (ra : R256 a) (rb : R256 b) (rc : R256 c) (w : World) : Calls Tryz.prog 48 #[fe a, fe b, fe c] w fun e w' => e = .returned (fe (ma a b c)) ∧ Chg w w' [] := by
  obtain ⟨n, rfl, hn⟩ := of_r256 ra
  obtain ⟨m, rfl, hm⟩ := of_r256 rb
  obtain ⟨c, rfl, hc⟩ := of_r256 rc
  have e : ma (n : Int) (m : Int) (c : Int) = ((adP (mlP (n % LN) (m % LN)) c : Nat) : Int) := by
    rw [adI, mlI]
    unfold ma ad ml
    rw [m_add_l]
  rw [e]
  exact MulAdd_r n m c hn hm hc w
theorem IsZero_q (a : Int) (ra : R256 a) (t : Bool) (h : eqn (cn a) 0 = t) (w : World) : Calls Tryz.prog 91 #[fe a] w fun e w' => e = .returned (.bool t) ∧ Chg w w' [] := by
  obtain ⟨n, rfl, hn⟩ := of_r256 ra
  have e : eqn (cn (n : Int)) 0 = eqD (n % LN) 0 := by
    rw [eqn_eq (n := cn (n : Int)) (m := 0) (rl_mod _) ⟨by decide, by decide⟩, eqD_eq (modL_lt n) (by decide)]
    have e1 : cn (n : Int) = ((n % LN : Nat) : Int) := by unfold cn; rw [Int.natCast_emod, LN_eq]
    rw [e1]
    by_cases hz : n % LN = 0
    · rw [hz]; rfl
    · rw [decide_eq_false hz, decide_eq_false (by omega)]
  rw [← h, e]
  exact IsZero_r n hn w
end Go.Proofs.YtmoahgeclmediaaGreat
