/- For all 32-byte values a, b and c, rimelaw02.ScalarField returns true and its arguments read afterwards as they read before. No condition. -/
import Derived.Test.YtcdgkhejbdlapabRows
import Derived.Test.YtcdgkhejbdlapabFieldWalk
import Derived.Test.YtcdgkhejbdlapabFieldZero
import Derived.Test.YtcdgkhejbdlapabOpen
import Derived.Below
set_option linter.unusedVariables false
set_option linter.unusedSimpArgs false
set_option linter.unnecessarySimpa false
namespace Go.Proofs.Ytcdgkhejbdlapab
open Go.ChangeShapes Go.WideShapes Go.ChangeAt Go.RowKit N

theorem m_sub_r (x y : Int) : (x - y % L) % L = (x - y) % L := by rw [Int.sub_emod x (y % L), Int.emod_emod_of_dvd _ (Int.dvd_refl L), ← Int.sub_emod]
theorem e0 (a b : Int) : ad a b = ad b a := by unfold ad; rw [Int.add_comm]
theorem e1 (a b : Int) : ml a b = ml b a := by unfold ml; rw [Int.mul_comm]
theorem e2 (a b c : Int) : ad (ad a b) c = ad a (ad b c) := by unfold ad; rw [m_add_l, m_add_r, Int.add_assoc]
theorem e3 (a b c : Int) : ml (ml a b) c = ml a (ml b c) := by unfold ml; rw [m_mul_l, m_mul_r, Int.mul_assoc]
theorem e4 (a b c : Int) : ml a (ad b c) = ad (ml a b) (ml a c) := by unfold ml ad; rw [m_mul_r, m_add_l, m_add_r, Int.mul_add]
theorem e5 (a b c : Int) : ma a b c = ad (ml a b) c := by unfold ma ml ad; rw [m_add_l]
theorem e6 (a : Int) : ml a 1 = ad a 0 := by unfold ml ad; rw [Int.mul_one, Int.add_zero]
theorem e7 (a : Int) : ad a (ng a) = 0 := by unfold ad ng; rw [m_add_r, Int.add_right_neg]; rfl
theorem e8 (a b : Int) : sb a b = ad a (ng b) := by unfold sb ad ng; rw [m_add_r]; rfl
theorem low_is (a : Int) : ad a 0 = cn a := by unfold ad cn; rw [Int.add_zero]
theorem cn_cn (a : Int) : cn (cn a) = cn a := by unfold cn; exact Int.emod_emod_of_dvd _ (Int.dvd_refl L)
theorem eqf_comm (x y : Int) : eqf x y = eqf y x := by unfold eqf; congr 1; funext i; exact Bool.beq_comm

theorem inv_not (a : Int) (ra : R256 a) (h : a % L ≠ 0) : ml a (iv a) = 1 := by
  obtain ⟨n, rfl⟩ := Int.eq_ofNat_of_zero_le ra.1
  unfold ml iv
  have e : pw (n : Int) 1 * pw (n : Int) 7237005577332262213973186563042994240857116359379907606001950938285454250987 % L = 1 := by
    rw [pw_mul (n : Int) 1 7237005577332262213973186563042994240857116359379907606001950938285454250987 7237005577332262213973186563042994240857116359379907606001950938285454250988 (by decide +kernel)]
    exact pw_last n (fun hd => h ((mod_zero_iff n).2 hd))
  rw [pw_one, m_mul_l] at e
  exact e

theorem field_walk (a b c : Int) (ra : R256 a) (rb : R256 b) (rc : R256 c) (w : World) :
    Calls Try.prog 3 #[fe a, fe b, fe c] w fun e w' => e = .returned (.bool true) ∧ Chg w w' [] := by
  have HC : eqf (ad a 0) (cn (ad a 0)) = true := by rw [low_is, cn_cn]; exact eqf_self _
  have HK : cmpI (cn a) (cn (ad a 0)) = 0 := by rw [low_is, cn_cn]; simp [cmpI]
  have HT : eqf (ad a 0) a = eqf a (cn a) := by rw [low_is]; exact eqf_comm _ _
  have hz : eqn (cn a) 0 = decide (cn a = 0) := eqn_eq (rl_mod a) ⟨by decide, by decide⟩
  by_cases h : a % L = 0
  · have h' : cn a = 0 := h
    refine field_zero a b c ra rb rc _ rfl HC HK (by rw [hz, h']; rfl) w (same (e0 a b)) (same (e1 a b)) (same (e2 a b c)) (same (e3 a b c)) (same (e4 a b c)) (same (e5 a b c)) (same (e6 a)) (same (e7 a)) (same (e8 a b)) HT (same ?_)
    rw [low_is]; exact h
  · have h' : ¬ cn a = 0 := h
    refine field_not a b c ra rb rc _ rfl HC HK (by rw [hz]; exact decide_eq_false h') w (same (e0 a b)) (same (e1 a b)) (same (e2 a b c)) (same (e3 a b c)) (same (e4 a b c)) (same (e5 a b c)) (same (e6 a)) (same (e7 a)) (same (e8 a b)) HT ?_ (same (inv_not a ra h))
    rw [low_is, eqf_eq (n := cn a) (m := 0) (r256_mod a) r256_c0]
    exact decide_eq_false h'

set_option maxRecDepth 100000 in
theorem scalarField_lifted (os : Os) (started : os.Started) (H : Type) (enc : TypeId × Value → H) :
    ReturnsInHanded {} Try.checked os 3 .any (Rows.scalarFieldSpec.pre6 enc Try.prog Try.f3 Rows.scalarFieldRow.domain false) (Rows.scalarFieldSpec.post enc Try.prog Try.f3 false true false false) := by
  refine returnsInHanded_of_change (C := Try.checked) own started (by kernel_rfl) Try.func3
    (ChangeSpec.witness6 (enc := enc) (C := Try.checked) false ⟨#[], #[.agg z32, .agg z32, .agg z32], []⟩ 8 (by kernel_rfl) (by kernel_rfl) (by kernel_rfl) (by kernel_rfl)) ?_
  intro W base args ds gs before hval0 hW hcnd _
  have hval : ∀ (j : Nat) t v, Try.f3.params[j]? = some t → args[j]? = some v → Value.okWide Try.prog W .any base t v := hval0
  have hW' := hW
  obtain ⟨p, q, hA0, hV, rfl, hfz, hnd⟩ := hW
  have hA : DataW.TrodAll enc Try.prog W 0 (fun _ => true) true Try.f3.params.toList args.toList ds p := hA0
  rw [Try.params3] at hA hval
  obtain ⟨v0, v1, v2, d0, d1, d2, p0, p1, p2, rfl, rfl, rfl, h0, h1, h2⟩ := trodAll_three hA
  obtain ⟨rfl, rfl⟩ := trodVars_none hV
  have lt0 : ∀ x ∈ p0, x.block < W.heap.size := by obtain ⟨m, hm⟩ := h0; exact DataW.trod_lt m _ _ _ hm
  have lt1 : ∀ x ∈ p1, x.block < W.heap.size := by obtain ⟨m, hm⟩ := h1; exact DataW.trod_lt m _ _ _ hm
  have lt2 : ∀ x ∈ p2, x.block < W.heap.size := by obtain ⟨m, hm⟩ := h2; exact DataW.trod_lt m _ _ _ hm
  obtain ⟨a, ra, rfl⟩ := open_fe (hval 0 23 v0 rfl rfl) h0
  obtain ⟨b, rb, rfl⟩ := open_fe (hval 1 23 v1 rfl rfl) h1
  obtain ⟨c, rc, rfl⟩ := open_fe (hval 2 23 v2 rfl rfl) h2
  clear hA0 hval0
  refine (field_walk a b c ra rb rc W).mono fun e W' ⟨he, hc⟩ => ?_
  have bel := hc.below
  subst he
  exact ⟨_, rfl, _, _, _, [], _, [], hW', trodAll_mk1 (shut_bool Try.underlying4 _), (trodAll_cons_mk (Below.trod laidOut (by kernel_rfl) (of_decide_eq_true (by kernel_rfl)) h0 bel lt0) (trodAll_cons_mk (Below.trod laidOut (by kernel_rfl) (of_decide_eq_true (by kernel_rfl)) h1 bel lt1) (trodAll_cons_mk (Below.trod laidOut (by kernel_rfl) (of_decide_eq_true (by kernel_rfl)) h2 bel lt2) trodAll_mk0))), rfl, bel.frame _, fun h => by cases h⟩

theorem scalarField_holds : Rows.ScalarFieldSaid :=
  OpenClaim.holds_of_wide 3 Try.f3 rfl rfl rfl rfl rfl rfl rfl ⟨rfl, rfl, rfl, rfl, rfl⟩ rfl rfl rfl rfl rfl (by kernel_rfl) Try.func3 (by kernel_rfl)
    (of_decide_eq_true (by kernel_rfl)) (by unfold Func.isWrapper; first | (rw [if_pos (by decide +kernel)]; kernel_rfl) | (rw [if_neg (by decide +kernel)]; exact ⟨rfl, rfl⟩))
    (fun os started H enc _ => scalarField_lifted os started H enc)
end Go.Proofs.Ytcdgkhejbdlapab
