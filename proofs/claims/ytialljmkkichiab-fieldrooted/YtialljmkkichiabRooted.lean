/- For all 32-byte values u and v, rimelaw01.FieldRooted returns true and its arguments read afterwards as they read before. No condition. -/
import Derived.Test.YtialljmkkichiabRows
import Derived.Test.YtialljmkkichiabRootedWalk
import Derived.Test.YtialljmkkichiabOpen
import Derived.Below
set_option linter.unusedVariables false
set_option linter.unusedSimpArgs false
set_option linter.unnecessarySimpa false
namespace Go.Proofs.Ytialljmkkichiab
open Go.ChangeShapes Go.WideShapes Go.ChangeAt Go.RowKit N

theorem eqf_can (r : Int) (h : r % P = r) : eqf r (r % P) = true := by rw [h, eqf_self]
theorem eqf_z {x : Int} (h : x % P = 0) : eqf (x % P) (0 % P) = true := same (by rw [h]; rfl)
theorem eqf_nz {x : Int} (h : x % P ≠ 0) : eqf (x % P) (0 % P) = false := by
  rw [eqf_eq (r256_mod _) (r256_mod _)]
  exact decide_eq_false (fun e => h (by rw [e]; rfl))
theorem s1_minus : eqf (sq' S1) (ng' 1) = true := same S1_sq
theorem rooted_walk (u v : Int) (ru : R256 u) (rv : R256 v) (w : World) :
    Calls Try.prog 5 #[fe u, fe v] w fun e w' => e = .returned (.bool true) ∧ Chg w w' [] := by
  have rr : R256 (ab (rootf u v)) := r256_mod _
  have hn0 : (ab (rootf u v) % P % 2 == 1) = false := by rw [ab_can]; exact ab_even _
  have hn1 : eqf (ab (rootf u v)) (ab (rootf u v) % P) = true := eqf_can _ (ab_can _)
  by_cases hv : v % P = 0
  · obtain ⟨hr, ho⟩ := root_v0 u v hv
    rw [← rootf_eq] at hr
    rw [← okf_eq] at ho
    by_cases hu : u % P = 0
    · exact rooted_v0u0 u v (ab (rootf u v)) ru rv rfl (by rw [ho]; exact decide_eq_true hu) rr hn0 hn1 s1_minus (eqf_z hv) (same hr) (eqf_z hu) w
    · exact rooted_v0u1 u v (ab (rootf u v)) ru rv rfl (by rw [ho]; exact decide_eq_false hu) rr hn0 hn1 s1_minus (eqf_z hv) (same hr) (eqf_nz hu) w
  · rcases root_main u v hv with ⟨ho, hs, hl⟩ | ⟨ho, hs, hl⟩
    · rw [← rootf_eq] at hs
      rw [← okf_eq] at ho
      exact rooted_ok u v (ab (rootf u v)) ru rv rfl ho rr hn0 hn1 s1_minus (eqf_nz hv) (same (by unfold ml' sq'; rw [mm]; exact hs)) (leg (ml' u v)) rfl hl w
    · rw [← rootf_eq] at hs
      rw [← okf_eq] at ho
      exact rooted_no u v (ab (rootf u v)) ru rv rfl ho rr hn0 hn1 s1_minus (eqf_nz hv) (same (by unfold ml' sq'; exact hs)) hl.symm w

set_option maxRecDepth 100000 in
theorem fieldRooted_lifted (os : Os) (started : os.Started) (H : Type) (enc : TypeId × Value → H) :
    ReturnsInHanded {} Try.checked os 5 .any (Rows.fieldRootedSpec.pre6 enc Try.prog Try.f5 Rows.fieldRootedRow.domain false) (Rows.fieldRootedSpec.post enc Try.prog Try.f5 false true false false) := by
  refine returnsInHanded_of_change (C := Try.checked) own started (by kernel_rfl) Try.func5
    (ChangeSpec.witness6 (enc := enc) (C := Try.checked) false ⟨#[], #[.agg z32, .agg z32], []⟩ 8 (by kernel_rfl) (by kernel_rfl) (by kernel_rfl) (by kernel_rfl)) ?_
  intro W base args ds gs before hval0 hW hcnd _
  have hval : ∀ (j : Nat) t v, Try.f5.params[j]? = some t → args[j]? = some v → Value.okWide Try.prog W .any base t v := hval0
  have hW' := hW
  obtain ⟨p, q, hA0, hV, rfl, hfz, hnd⟩ := hW
  have hA : DataW.TrodAll enc Try.prog W 0 (fun _ => true) true Try.f5.params.toList args.toList ds p := hA0
  rw [Try.params5] at hA hval
  obtain ⟨v0, v1, d0, d1, p0, p1, rfl, rfl, rfl, h0, h1⟩ := trodAll_two hA
  obtain ⟨rfl, rfl⟩ := trodVars_none hV
  have lt0 : ∀ x ∈ p0, x.block < W.heap.size := by obtain ⟨m, hm⟩ := h0; exact DataW.trod_lt m _ _ _ hm
  have lt1 : ∀ x ∈ p1, x.block < W.heap.size := by obtain ⟨m, hm⟩ := h1; exact DataW.trod_lt m _ _ _ hm
  obtain ⟨a, ra, rfl⟩ := open_fe (hval 0 23 v0 rfl rfl) h0
  obtain ⟨b, rb, rfl⟩ := open_fe (hval 1 23 v1 rfl rfl) h1
  clear hA0 hval0
  refine (rooted_walk a b ra rb W).mono fun e W' ⟨he, hc⟩ => ?_
  have bel := hc.below
  subst he
  exact ⟨_, rfl, _, _, _, [], _, [], hW', trodAll_mk1 (shut_bool Try.underlying4 _), (trodAll_cons_mk (Below.trod laidOut (by kernel_rfl) (of_decide_eq_true (by kernel_rfl)) h0 bel lt0) (trodAll_cons_mk (Below.trod laidOut (by kernel_rfl) (of_decide_eq_true (by kernel_rfl)) h1 bel lt1) trodAll_mk0)), rfl, bel.frame _, fun h => by cases h⟩

theorem fieldRooted_holds : Rows.FieldRootedSaid :=
  OpenClaim.holds_of_wide 5 Try.f5 rfl rfl rfl rfl rfl rfl rfl ⟨rfl, rfl, rfl, rfl, rfl⟩ rfl rfl rfl rfl rfl (by kernel_rfl) Try.func5 (by kernel_rfl)
    (of_decide_eq_true (by kernel_rfl)) (by unfold Func.isWrapper; first | (rw [if_pos (by decide +kernel)]; kernel_rfl) | (rw [if_neg (by decide +kernel)]; exact ⟨rfl, rfl⟩))
    (fun os started H enc _ => fieldRooted_lifted os started H enc)
end Go.Proofs.Ytialljmkkichiab
