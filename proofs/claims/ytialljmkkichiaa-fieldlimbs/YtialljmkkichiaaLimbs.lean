/- For every 32-byte value a and all five numbers l, rimelaw01.FieldLimbs returns true and its arguments read afterwards as they read before. No condition. -/
import Derived.Test.YtialljmkkichiaaRows
import Derived.Test.YtialljmkkichiaaLimbsWalk
import Derived.Test.YtialljmkkichiaaOpen2
import Derived.Test.YtialljmkkichiaaMath
import Derived.Below
set_option linter.unusedVariables false
set_option linter.unusedSimpArgs false
set_option linter.unnecessarySimpa false
namespace Go.Proofs.Ytialljmkkichiaa
open Go.ChangeShapes Go.WideShapes Go.ChangeAt Go.RowKit N

set_option maxRecDepth 100000 in
theorem fieldLimbs_lifted (os : Os) (started : os.Started) (H : Type) (enc : TypeId × Value → H) :
    ReturnsInHanded {} Try.checked os 8 .any (Rows.fieldLimbsSpec.pre6 enc Try.prog Try.f8 Rows.fieldLimbsRow.domain false) (Rows.fieldLimbsSpec.post enc Try.prog Try.f8 false true false false) := by
  refine returnsInHanded_of_change (C := Try.checked) own started (by kernel_rfl) Try.func8
    (ChangeSpec.witness6 (enc := enc) (C := Try.checked) false ⟨#[], #[.agg z32, .agg (lc 0 0 0 0 0)], []⟩ 8 (by kernel_rfl) (by kernel_rfl) (by kernel_rfl) (by kernel_rfl)) ?_
  intro W base args ds gs before hval0 hW hcnd _
  have hval : ∀ (j : Nat) t v, Try.f8.params[j]? = some t → args[j]? = some v → Value.okWide Try.prog W .any base t v := hval0
  have hW' := hW
  obtain ⟨p, q, hA0, hV, rfl, hfz, hnd⟩ := hW
  have hA : DataW.TrodAll enc Try.prog W 0 (fun _ => true) true Try.f8.params.toList args.toList ds p := hA0
  rw [Try.params8] at hA hval
  obtain ⟨v0, v1, d0, d1, p0, p1, rfl, rfl, rfl, h0, h1⟩ := trodAll_two hA
  obtain ⟨rfl, rfl⟩ := trodVars_none hV
  have lt0 : ∀ x ∈ p0, x.block < W.heap.size := by obtain ⟨m, hm⟩ := h0; exact DataW.trod_lt m _ _ _ hm
  have lt1 : ∀ x ∈ p1, x.block < W.heap.size := by obtain ⟨m, hm⟩ := h1; exact DataW.trod_lt m _ _ _ hm
  obtain ⟨a, ra, rfl⟩ := open_fe (hval 0 24 v0 rfl rfl) h0
  obtain ⟨l0, l1, l2, l3, l4, ⟨w0, w1, w2, w3, w4⟩, rfl⟩ := open_limbs (hval 1 71 v1 rfl rfl) h1
  clear hA0 hval0
  obtain ⟨n0, rfl⟩ := Int.eq_ofNat_of_zero_le w0.1
  obtain ⟨n1, rfl⟩ := Int.eq_ofNat_of_zero_le w1.1
  obtain ⟨n2, rfl⟩ := Int.eq_ofNat_of_zero_le w2.1
  obtain ⟨n3, rfl⟩ := Int.eq_ofNat_of_zero_le w3.1
  obtain ⟨n4, rfl⟩ := Int.eq_ofNat_of_zero_le w4.1
  have hl : ∀ i, i < 5 → lfn n0 n1 n2 n3 n4 i < 18446744073709551616 := fun i hi => by
    have h5 : i = 0 ∨ i = 1 ∨ i = 2 ∨ i = 3 ∨ i = 4 := by omega
    have a0 := w0.2; have a1 := w1.2; have a2 := w2.2; have a3 := w3.2; have a4 := w4.2
    rcases h5 with rfl | rfl | rfl | rfl | rfl
    · show n0 < _; omega
    · show n1 < _; omega
    · show n2 < _; omega
    · show n3 < _; omega
    · show n4 < _; omega
  refine (limbs_walk a ra (lfn n0 n1 n2 n3 n4) ((tvm (lfn n0 n1 n2 n3 n4) 5 : Nat) : Int) W (fun w => Join_f8 n0 n1 n2 n3 n4 w0 w1 w2 w3 w4 w) (fun w => Join_r _ hl w)).mono fun e W' ⟨he, hc⟩ => ?_
  have bel := hc.below
  subst he
  exact ⟨_, rfl, _, _, _, [], _, [], hW', trodAll_mk1 (shut_bool Try.underlying4 _), (trodAll_cons_mk (Below.trod laidOut (by kernel_rfl) (of_decide_eq_true (by kernel_rfl)) h0 bel lt0) (trodAll_cons_mk (Below.trod laidOut (by kernel_rfl) (of_decide_eq_true (by kernel_rfl)) h1 bel lt1) trodAll_mk0)), rfl, bel.frame _, fun h => by cases h⟩

theorem fieldLimbs_holds : Rows.FieldLimbsSaid :=
  OpenClaim.holds_of_wide 8 Try.f8 rfl rfl rfl rfl rfl rfl rfl ⟨rfl, rfl, rfl, rfl, rfl⟩ rfl rfl rfl rfl rfl (by kernel_rfl) Try.func8 (by kernel_rfl)
    (of_decide_eq_true (by kernel_rfl)) (by unfold Func.isWrapper; first | (rw [if_pos (by decide +kernel)]; kernel_rfl) | (rw [if_neg (by decide +kernel)]; exact ⟨rfl, rfl⟩))
    (fun os started H enc _ => fieldLimbs_lifted os started H enc)
end Go.Proofs.Ytialljmkkichiaa
