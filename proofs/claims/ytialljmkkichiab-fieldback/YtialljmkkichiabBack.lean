/- For every 32-byte value a, all five limbs l and all bytes b (nil among them), rimelaw01.FieldBack returns true and its arguments read afterwards as they read before. No condition. -/
import Derived.Test.YtialljmkkichiabRows
import Derived.Test.YtialljmkkichiabBackWalk
import Derived.Test.YtialljmkkichiabMath
import Derived.Test.YtialljmkkichiabOpen2
import Derived.Below
set_option linter.unusedVariables false
set_option linter.unusedSimpArgs false
set_option linter.unnecessarySimpa false
namespace Go.Proofs.Ytialljmkkichiab
open Go.ChangeShapes Go.WideShapes Go.ChangeAt Go.RowKit N

theorem mod_mod_P (x : Int) : x % P % P = x % P := Int.emod_emod_of_dvd _ (Int.dvd_refl P)
theorem other {n m : Int} (hn : R256 n) (hm : R256 m) (h : n ≠ m) : eqf n m = false := by rw [eqf_eq hn hm]; exact decide_eq_false h

theorem back_walk (a l0 l1 l2 l3 l4 r : Int) (bv : Value) (ra : R256 a) (rl : Wo l0 ∧ Wo l1 ∧ Wo l2 ∧ Wo l3 ∧ Wo l4) (rr : R256 r) (hr : r % P = r) (w : World)
    (hb : ∀ w', Chg w w' [] → Calls Try.prog 27 #[bv] w' fun e w'' => e = .returned (fe r) ∧ Chg w' w'' []) :
    Calls Try.prog 6 #[fe a, .agg (lc l0 l1 l2 l3 l4), bv] w fun e w' => e = .returned (.bool true) ∧ Chg w w' [] := by
  by_cases h : a % P = a
  · exact back_yes a (a % P) l0 l1 l2 l3 l4 (V l0 l1 l2 l3 l4 % P) r bv ra rl rfl (r256_mod _) (same (mod_mod_P a)) rfl (r256_mod _) (mod_mod_P _) rr (same hr.symm) (same h.symm) h w hb
  · exact back_no a (a % P) l0 l1 l2 l3 l4 (V l0 l1 l2 l3 l4 % P) r bv ra rl rfl (r256_mod _) (same (mod_mod_P a)) rfl (r256_mod _) (mod_mod_P _) rr (same hr.symm) (other ra (r256_mod _) (fun e => h e.symm)) (other (r256_mod _) ra h) w hb

set_option maxRecDepth 100000 in
theorem fieldBack_lifted (os : Os) (started : os.Started) (H : Type) (enc : TypeId × Value → H) :
    ReturnsInHanded {} Try.checked os 6 .any (Rows.fieldBackSpec.pre6 enc Try.prog Try.f6 Rows.fieldBackRow.domain false) (Rows.fieldBackSpec.post enc Try.prog Try.f6 false true false false) := by
  refine returnsInHanded_of_change (C := Try.checked) own started (by kernel_rfl) Try.func6
    (ChangeSpec.witness6 (enc := enc) (C := Try.checked) false ⟨#[], #[.agg z32, .agg (lc 0 0 0 0 0), .slice none 0 0], []⟩ 8 (by kernel_rfl) (by kernel_rfl) (by kernel_rfl) (by kernel_rfl)) ?_
  intro W base args ds gs before hval0 hW hcnd _
  have hval : ∀ (j : Nat) t v, Try.f6.params[j]? = some t → args[j]? = some v → Value.okWide Try.prog W .any base t v := hval0
  have hW' := hW
  obtain ⟨p, q, hA0, hV, rfl, hfz, hnd⟩ := hW
  have hA : DataW.TrodAll enc Try.prog W 0 (fun _ => true) true Try.f6.params.toList args.toList ds p := hA0
  rw [Try.params6] at hA hval
  obtain ⟨v0, v1, v2, d0, d1, d2, p0, p1, p2, rfl, rfl, rfl, h0, h1, h2⟩ := trodAll_three hA
  obtain ⟨rfl, rfl⟩ := trodVars_none hV
  have lt0 : ∀ x ∈ p0, x.block < W.heap.size := by obtain ⟨m, hm⟩ := h0; exact DataW.trod_lt m _ _ _ hm
  have lt1 : ∀ x ∈ p1, x.block < W.heap.size := by obtain ⟨m, hm⟩ := h1; exact DataW.trod_lt m _ _ _ hm
  have lt2 : ∀ x ∈ p2, x.block < W.heap.size := by obtain ⟨m, hm⟩ := h2; exact DataW.trod_lt m _ _ _ hm
  obtain ⟨a, ra, rfl⟩ := open_fe (hval 0 23 v0 rfl rfl) h0
  obtain ⟨l0, l1, l2, l3, l4, rl, rfl⟩ := open_limbs (hval 1 41 v1 rfl rfl) h1
  have hbr : ∃ r, R256 r ∧ r % P = r ∧ ∀ w', Chg W w' [] → Calls Try.prog 27 #[v2] w' fun e w'' => e = .returned (fe r) ∧ Chg w' w'' [] := by
    rcases open_bytes (hval 2 32 v2 rfl rfl) h2 with rfl | ⟨g, o, len, cap, b, rfl, hl, hc, hB⟩
    · exact ⟨0, by unfold R256; decide, by decide, fun w' _ => Reduce_nil w'⟩
    · exact ⟨((nb b 0 len : Nat) : Int) % P, r256_mod _, mod_mod_P _, fun w' hw => Reduce_fe g o len cap b hl hc w' (hB.chg hw (by simp))⟩
  obtain ⟨r, rr, hr, hb⟩ := hbr
  clear hA0 hval0
  refine (back_walk a l0 l1 l2 l3 l4 r v2 ra rl rr hr W hb).mono fun e W' ⟨he, hc⟩ => ?_
  have bel := hc.below
  subst he
  exact ⟨_, rfl, _, _, _, [], _, [], hW', trodAll_mk1 (shut_bool Try.underlying4 _), (trodAll_cons_mk (Below.trod laidOut (by kernel_rfl) (of_decide_eq_true (by kernel_rfl)) h0 bel lt0) (trodAll_cons_mk (Below.trod laidOut (by kernel_rfl) (of_decide_eq_true (by kernel_rfl)) h1 bel lt1) (trodAll_cons_mk (Below.trod laidOut (by kernel_rfl) (of_decide_eq_true (by kernel_rfl)) h2 bel lt2) trodAll_mk0))), rfl, bel.frame _, fun h => by cases h⟩

theorem fieldBack_holds : Rows.FieldBackSaid :=
  OpenClaim.holds_of_wide 6 Try.f6 rfl rfl rfl rfl rfl rfl rfl ⟨rfl, rfl, rfl, rfl, rfl⟩ rfl rfl rfl rfl rfl (by kernel_rfl) Try.func6 (by kernel_rfl)
    (of_decide_eq_true (by kernel_rfl)) (by unfold Func.isWrapper; first | (rw [if_pos (by decide +kernel)]; kernel_rfl) | (rw [if_neg (by decide +kernel)]; exact ⟨rfl, rfl⟩))
    (fun os started H enc _ => fieldBack_lifted os started H enc)
end Go.Proofs.Ytialljmkkichiab
