/- For all 32-byte values a, b and c, rimelaw01.FieldRing returns true and its arguments read afterwards as they read before. No condition. -/
import Derived.Test.YtialljmkkichiabRows
import Derived.Test.YtialljmkkichiabRingWalk
import Derived.Test.YtialljmkkichiabMath
import Derived.Test.YtialljmkkichiabOpen
import Derived.Below
set_option linter.unusedVariables false
set_option linter.unusedSimpArgs false
set_option linter.unnecessarySimpa false
namespace Go.Proofs.Ytialljmkkichiab
open Go.ChangeShapes Go.WideShapes Go.ChangeAt Go.RowKit N


theorem e0 (a b : Int) : ad a b = ad b a := by unfold ad; rw [Int.add_comm]
theorem e1 (a b c : Int) : ad (ad a b) c = ad a (ad b c) := by unfold ad; rw [m_add_l, m_add_r, Int.add_assoc]
theorem e2 (a b : Int) : sb (ad a b) b = ad a 0 := by unfold sb ad; rw [m_sub_l, Int.add_sub_cancel, Int.add_zero]
theorem e3 (a : Int) : ad a (ng a) = 0 := by unfold ad ng; rw [m_add_r, Int.add_right_neg]; rfl
theorem e4 (a b : Int) : ml a b = ml b a := by unfold ml; rw [Int.mul_comm]
theorem e5 (a b c : Int) : ml (ml a b) c = ml a (ml b c) := by unfold ml; rw [m_mul_l, m_mul_r, Int.mul_assoc]
theorem e6 (a b c : Int) : ml a (ad b c) = ad (ml a b) (ml a c) := by unfold ml ad; rw [m_mul_r, m_add_l, m_add_r, Int.mul_add]
theorem e7 (a : Int) : cn (ml a 1) = cn a := by unfold cn ml; rw [Int.mul_one, Int.emod_emod_of_dvd _ (Int.dvd_refl P)]

theorem inv_not (a : Int) (ra : R256 a) (h : a % P ≠ 0) : ml a (iv a) = 1 := by
  obtain ⟨n, rfl⟩ := Int.eq_ofNat_of_zero_le ra.1
  unfold ml iv
  have e : pw (n : Int) 1 * pw (n : Int) 57896044618658097711785492504343953926634992332820282019728792003956564819947 % P = 1 := by
    rw [pw_mul (n : Int) 1 57896044618658097711785492504343953926634992332820282019728792003956564819947 57896044618658097711785492504343953926634992332820282019728792003956564819948 (by decide +kernel)]
    exact pw_last n (fun hd => h ((mod_zero_iff n).2 hd))
  rw [pw_one, m_mul_l] at e
  exact e
theorem inv_zero (a : Int) (ra : R256 a) (h : a % P = 0) : iv a = 0 := by
  obtain ⟨n, rfl⟩ := Int.eq_ofNat_of_zero_le ra.1
  exact pw_none n _ (by decide +kernel) ((mod_zero_iff n).1 h)


theorem ring_walk (a b c : Int) (ra : R256 a) (rb : R256 b) (rc : R256 c) (w : World) :
    Calls Try.prog 3 #[fe a, fe b, fe c] w fun e w' => e = .returned (.bool true) ∧ Chg w w' [] := by
  by_cases h : a % P = 0
  · have hi := inv_zero a ra h
    refine ring_zero a b c ra rb rc w (same (e0 a b)) (same (e1 a b c)) (same (e2 a b)) (same (e3 a)) (same (e4 a b)) (same (e5 a b c)) (same (e6 a b c)) (same (e7 a)) ?_ (same h) (same hi)
    rw [hi]
    unfold ml
    rw [Int.mul_zero]
    decide +kernel
  · exact ring_not a b c ra rb rc w (same (e0 a b)) (same (e1 a b c)) (same (e2 a b)) (same (e3 a)) (same (e4 a b)) (same (e5 a b c)) (same (e6 a b c)) (same (e7 a)) (same (inv_not a ra h))

set_option maxRecDepth 100000 in
theorem fieldRing_lifted (os : Os) (started : os.Started) (H : Type) (enc : TypeId × Value → H) :
    ReturnsInHanded {} Try.checked os 3 .any (Rows.fieldRingSpec.pre6 enc Try.prog Try.f3 Rows.fieldRingRow.domain false) (Rows.fieldRingSpec.post enc Try.prog Try.f3 false true false false) := by
  refine returnsInHanded_of_change (C := Try.checked) own started (by kernel_rfl) Try.func3
    (ChangeSpec.witness6 (enc := enc) (C := Try.checked) false ⟨#[], #[.agg z32, .agg z32, .agg z32], []⟩ 8 (by kernel_rfl) (by kernel_rfl) (by kernel_rfl) (by kernel_rfl)) ?_
  intro W base args ds gs before hval0 hW hcnd _
  have hval : ∀ (j : Nat) t v, Try.f3.params[j]? = some t → args[j]? = some v → Value.okWide Try.prog W .any base t v := hval0
  have hW' := hW
  obtain ⟨p, q, hA0, hV, rfl, hfz, hnd⟩ := hW
  have hA : DataW.TrodAll enc Try.prog W 0 (fun _ => true) true Try.f3.params.toList args.toList ds p := hA0
  rw [Try.params3] at hA hval
  obtain ⟨v0, v1, v2, d0, d1, d2, p0, p1, p2, rfl, rfl, rfl, h0, h1, h2⟩ := trodAll_three hA
  obtain ⟨rfl, rfl⟩ := trodVars_none hV
  have lt0 : ∀ x ∈ p0, x.block < W.heap.size := by obtain ⟨m, hm⟩ := h0; exact DataW.trod_lt m _ _ _ hm
  have lt1 : ∀ x ∈ p1, x.block < W.heap.size := by obtain ⟨m, hm⟩ := h1; exact DataW.trod_lt m _ _ _ hm
  have lt2 : ∀ x ∈ p2, x.block < W.heap.size := by obtain ⟨m, hm⟩ := h2; exact DataW.trod_lt m _ _ _ hm
  obtain ⟨a, ra, rfl⟩ := open_fe (hval 0 23 v0 rfl rfl) h0
  obtain ⟨b, rb, rfl⟩ := open_fe (hval 1 23 v1 rfl rfl) h1
  obtain ⟨c, rc, rfl⟩ := open_fe (hval 2 23 v2 rfl rfl) h2
  clear hA0 hval0
  refine (ring_walk a b c ra rb rc W).mono fun e W' ⟨he, hc⟩ => ?_
  have bel := hc.below
  subst he
  exact ⟨_, rfl, _, _, _, [], _, [], hW', trodAll_mk1 (shut_bool Try.underlying4 _), (trodAll_cons_mk (Below.trod laidOut (by kernel_rfl) (of_decide_eq_true (by kernel_rfl)) h0 bel lt0) (trodAll_cons_mk (Below.trod laidOut (by kernel_rfl) (of_decide_eq_true (by kernel_rfl)) h1 bel lt1) (trodAll_cons_mk (Below.trod laidOut (by kernel_rfl) (of_decide_eq_true (by kernel_rfl)) h2 bel lt2) trodAll_mk0))), rfl, bel.frame _, fun h => by cases h⟩

theorem fieldRing_holds : Rows.FieldRingSaid :=
  OpenClaim.holds_of_wide 3 Try.f3 rfl rfl rfl rfl rfl rfl rfl ⟨rfl, rfl, rfl, rfl, rfl⟩ rfl rfl rfl rfl rfl (by kernel_rfl) Try.func3 (by kernel_rfl)
    (of_decide_eq_true (by kernel_rfl)) (by unfold Func.isWrapper; first | (rw [if_pos (by decide +kernel)]; kernel_rfl) | (rw [if_neg (by decide +kernel)]; exact ⟨rfl, rfl⟩))
    (fun os started H enc _ => fieldRing_lifted os started H enc)
end Go.Proofs.Ytialljmkkichiab
