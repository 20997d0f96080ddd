/- ScalarAdds: the walk. -/
import Derived.Test.YtcagkcglmcafgaaGreatMgA
import Derived.Test.YtcagkcglmcafgaaGreatRCmp
set_option linter.unusedVariables false
set_option linter.unusedSimpArgs false
set_option linter.unnecessarySimpa false
namespace Go.Proofs.YtcagkcglmcafgaaGreat
open Go.RowKit N

theorem adI (n m : Nat) : ((adP n m : Nat) : Int) = ad (n : Int) (m : Int) := by unfold adP ad; rw [Int.natCast_emod, Int.natCast_add, LN_eq]
theorem mlI (n m : Nat) : ((mlP (n % LN) (m % LN) : Nat) : Int) = ml (n : Int) (m : Int) := by unfold mlP ml; rw [← Nat.mul_mod, Int.natCast_emod, Int.natCast_mul, LN_eq]
theorem ngI (n : Nat) : ((ngP n : Nat) : Int) = ng (n : Int) := by
  unfold ngP ng
  have h := Nat.le_of_lt (Nat.mod_lt n LN_pos)
  rw [Int.natCast_emod, Int.natCast_sub h, Int.natCast_emod, LN_eq, Int.sub_emod, Int.emod_self, Int.emod_emod_of_dvd _ (Int.dvd_refl L)]
  rw [show -(n : Int) = 0 - (n : Int) by omega, Int.sub_emod 0 (n : Int)]
  rfl
theorem of_r256 {a : Int} (ra : R256 a) : ∃ n : Nat, a = (n : Int) ∧ n < 115792089237316195423570985008687907853269984665640564039457584007913129639936 := by
  obtain ⟨n, rfl⟩ := Int.eq_ofNat_of_zero_le ra.1
  exact ⟨n, rfl, by unfold R256 at ra; omega⟩
theorem Add_q (a b : Int) (ra : R256 a) (rb : R256 b) (w : World) : Calls Tryz.prog 10 #[fe a, fe b] w fun e w' => e = .returned (fe (ad a b)) ∧ Chg w w' [] := by
  obtain ⟨n, rfl, hn⟩ := of_r256 ra
  obtain ⟨m, rfl, hm⟩ := of_r256 rb
  rw [← adI]
  exact Add_p n m hn hm w
theorem Mul_q (a b : Int) (ra : R256 a) (rb : R256 b) (w : World) : Calls Tryz.prog 30 #[fe a, fe b] w fun e w' => e = .returned (fe (ml a b)) ∧ Chg w w' [] := by
  obtain ⟨n, rfl, hn⟩ := of_r256 ra
  obtain ⟨m, rfl, hm⟩ := of_r256 rb
  rw [← mlI]
  exact Mul_r n m hn hm w
theorem MulAdd_q (a b c : Int) (ra : R256 a) (rb : R256 b) (rc : R256 c) (w : World) : Calls Tryz.prog 11 #[fe a, fe b, fe c] w fun e w' => e = .returned (fe (ma a b c)) ∧ Chg w w' [] := by
  obtain ⟨n, rfl, hn⟩ := of_r256 ra
  obtain ⟨m, rfl, hm⟩ := of_r256 rb
  obtain ⟨c, rfl, hc⟩ := of_r256 rc
  have e : ma (n : Int) (m : Int) (c : Int) = ((adP (mlP (n % LN) (m % LN)) c : Nat) : Int) := by
    rw [adI, mlI]
    unfold ma ad ml
    rw [m_add_l]
  rw [e]
  exact MulAdd_r n m c hn hm hc w
end Go.Proofs.YtcagkcglmcafgaaGreat
