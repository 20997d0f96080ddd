/- For all 32-byte values a and b, rimelaw01.FieldFermat returns true and its arguments read afterwards as they read before. No condition. -/
import Derived.Test.YtialljmkkichiabRows
import Derived.Test.YtialljmkkichiabFermatP
import Derived.Test.YtialljmkkichiabFermatM
import Derived.Test.YtialljmkkichiabFermatZ
import Derived.Test.YtialljmkkichiabOpen
import Derived.Below
set_option linter.unusedVariables false
set_option linter.unusedSimpArgs false
set_option linter.unnecessarySimpa false
namespace Go.Proofs.Ytialljmkkichiab
open Go.ChangeShapes Go.WideShapes Go.ChangeAt Go.RowKit N

theorem sgn (a : Int) : (1 = leg a ∧ eqf (eu a) 1 = true) ∨ (-1 = leg a ∧ eqf (eu a) (ng2 1) = true) ∨ (0 = leg a ∧ eqf (eu a) 0 = true) := by
  obtain ⟨l1, l0, lm⟩ := leg_eu a
  rcases eu_cases a with h | h | h
  · exact Or.inr (Or.inr ⟨(l0 h).symm, same h⟩)
  · exact Or.inl ⟨(l1 h).symm, same h⟩
  · exact Or.inr (Or.inl ⟨(lm h).symm, same h⟩)
theorem leg_ml2 (a b x y z : Int) (hx : x = leg a) (hy : y = leg b) (hz : z = x * y) : z = leg (ml2 a b) := by
  rw [hz, hx, hy]; exact (leg_mul a b).symm
theorem fermat_walk (a b : Int) (ra : R256 a) (rb : R256 b) (w : World) :
    Calls Try.prog 4 #[fe a, fe b] w fun e w' => e = .returned (.bool true) ∧ Chg w w' [] := by
  have n4 : eqf (fm a % P) (a % P) = true := same (fm_eq a)
  rcases sgn a with ⟨h, k⟩ | ⟨h, k⟩ | ⟨h, k⟩ <;> rcases sgn b with ⟨h', _⟩ | ⟨h', _⟩ | ⟨h', _⟩
  · exact fermat_pp a b ra rb h h' (leg_ml2 a b _ _ _ h h' (by decide)) n4 k w
  · exact fermat_pm a b ra rb h h' (leg_ml2 a b _ _ _ h h' (by decide)) n4 k w
  · exact fermat_pz a b ra rb h h' (leg_ml2 a b _ _ _ h h' (by decide)) n4 k w
  · exact fermat_mp a b ra rb h h' (leg_ml2 a b _ _ _ h h' (by decide)) n4 k w
  · exact fermat_mm a b ra rb h h' (leg_ml2 a b _ _ _ h h' (by decide)) n4 k w
  · exact fermat_mz a b ra rb h h' (leg_ml2 a b _ _ _ h h' (by decide)) n4 k w
  · exact fermat_zp a b ra rb h h' (leg_ml2 a b _ _ _ h h' (by decide)) n4 k w
  · exact fermat_zm a b ra rb h h' (leg_ml2 a b _ _ _ h h' (by decide)) n4 k w
  · exact fermat_zz a b ra rb h h' (leg_ml2 a b _ _ _ h h' (by decide)) n4 k w

set_option maxRecDepth 100000 in
theorem fieldFermat_lifted (os : Os) (started : os.Started) (H : Type) (enc : TypeId × Value → H) :
    ReturnsInHanded {} Try.checked os 4 .any (Rows.fieldFermatSpec.pre6 enc Try.prog Try.f4 Rows.fieldFermatRow.domain false) (Rows.fieldFermatSpec.post enc Try.prog Try.f4 false true false false) := by
  refine returnsInHanded_of_change (C := Try.checked) own started (by kernel_rfl) Try.func4
    (ChangeSpec.witness6 (enc := enc) (C := Try.checked) false ⟨#[], #[.agg z32, .agg z32], []⟩ 8 (by kernel_rfl) (by kernel_rfl) (by kernel_rfl) (by kernel_rfl)) ?_
  intro W base args ds gs before hval0 hW hcnd _
  have hval : ∀ (j : Nat) t v, Try.f4.params[j]? = some t → args[j]? = some v → Value.okWide Try.prog W .any base t v := hval0
  have hW' := hW
  obtain ⟨p, q, hA0, hV, rfl, hfz, hnd⟩ := hW
  have hA : DataW.TrodAll enc Try.prog W 0 (fun _ => true) true Try.f4.params.toList args.toList ds p := hA0
  rw [Try.params4] at hA hval
  obtain ⟨v0, v1, d0, d1, p0, p1, rfl, rfl, rfl, h0, h1⟩ := trodAll_two hA
  obtain ⟨rfl, rfl⟩ := trodVars_none hV
  have lt0 : ∀ x ∈ p0, x.block < W.heap.size := by obtain ⟨m, hm⟩ := h0; exact DataW.trod_lt m _ _ _ hm
  have lt1 : ∀ x ∈ p1, x.block < W.heap.size := by obtain ⟨m, hm⟩ := h1; exact DataW.trod_lt m _ _ _ hm
  obtain ⟨a, ra, rfl⟩ := open_fe (hval 0 23 v0 rfl rfl) h0
  obtain ⟨b, rb, rfl⟩ := open_fe (hval 1 23 v1 rfl rfl) h1
  clear hA0 hval0
  refine (fermat_walk a b ra rb W).mono fun e W' ⟨he, hc⟩ => ?_
  have bel := hc.below
  subst he
  exact ⟨_, rfl, _, _, _, [], _, [], hW', trodAll_mk1 (shut_bool Try.underlying4 _), (trodAll_cons_mk (Below.trod laidOut (by kernel_rfl) (of_decide_eq_true (by kernel_rfl)) h0 bel lt0) (trodAll_cons_mk (Below.trod laidOut (by kernel_rfl) (of_decide_eq_true (by kernel_rfl)) h1 bel lt1) trodAll_mk0)), rfl, bel.frame _, fun h => by cases h⟩

theorem fieldFermat_holds : Rows.FieldFermatSaid :=
  OpenClaim.holds_of_wide 4 Try.f4 rfl rfl rfl rfl rfl rfl rfl ⟨rfl, rfl, rfl, rfl, rfl⟩ rfl rfl rfl rfl rfl (by kernel_rfl) Try.func4 (by kernel_rfl)
    (of_decide_eq_true (by kernel_rfl)) (by unfold Func.isWrapper; first | (rw [if_pos (by decide +kernel)]; kernel_rfl) | (rw [if_neg (by decide +kernel)]; exact ⟨rfl, rfl⟩))
    (fun os started H enc _ => fieldFermat_lifted os started H enc)
end Go.Proofs.Ytialljmkkichiab
