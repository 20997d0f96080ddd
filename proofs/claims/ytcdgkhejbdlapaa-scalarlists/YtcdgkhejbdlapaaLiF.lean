/- For every two lists of 32-byte values l and m, rimelaw02.ScalarLists returns true and its arguments read afterwards as they read before. No condition. -/
import Derived.Test.YtcdgkhejbdlapaaRows
import Derived.Test.YtcdgkhejbdlapaaLiW
import Derived.Test.YtcdgkhejbdlapaaOpenL
set_option linter.constructorNameAsVariable false
set_option linter.unusedVariables false
set_option linter.unusedSimpArgs false
set_option linter.unnecessarySimpa false
namespace Go.Proofs.Ytcdgkhejbdlapaa
open Go.ChangeShapes Go.WideShapes Go.ChangeAt Go.RowKit Go.Deep N

theorem scBytes : Try.prog.bytesOf 24 = 32 := by kernel_rfl
set_option maxRecDepth 100000 in
theorem scalarLists_lifted (os : Os) (started : os.Started) (H : Type) (enc : TypeId × Value → H) :
    ReturnsInHanded {} Try.checked os 7 .any (Rows.scalarListsSpec.pre6 enc Try.prog Try.f7 Rows.scalarListsRow.domain false) (Rows.scalarListsSpec.post enc Try.prog Try.f7 false true false false) := by
  refine returnsInHanded_of_change_sized (C := Try.checked) own started (by kernel_rfl) Try.func7
    (ChangeSpec.witness6 (enc := enc) (C := Try.checked) false ⟨#[], #[.slice none 0 0, .slice none 0 0], []⟩ 8 (by kernel_rfl) (by kernel_rfl) (by kernel_rfl) (by kernel_rfl)) ?_
  intro W base args ds gs before hval0 hW _ hsz0 _
  have hval : ∀ (j : Nat) t v, Try.f7.params[j]? = some t → args[j]? = some v → Value.okWide Try.prog W .any base t v := hval0
  have hsz : (DataW.weightsEach Try.prog (Try.f7.params.toList ++ Rows.scalarListsSpec.plain.varTypes Try.prog) (ds ++ gs)).all (· ≤ reachBytes) = true := hsz0
  have hW' := hW
  obtain ⟨p, q, hA0, hV, rfl, hfz, hnd⟩ := hW
  have hA : DataW.TrodAll enc Try.prog W 0 (fun _ => true) true Try.f7.params.toList args.toList ds p := hA0
  rw [Try.params7] at hA hval hsz
  obtain ⟨v0, v1, d0, d1, p0, p1, rfl, rfl, rfl, h0, h1⟩ := trodAll_two hA
  obtain ⟨rfl, rfl⟩ := trodVars_none hV
  have lt0 : ∀ x ∈ p0, x.block < W.heap.size := by obtain ⟨m, hm⟩ := h0; exact DataW.trod_lt m _ _ _ hm
  have lt1 : ∀ x ∈ p1, x.block < W.heap.size := by obtain ⟨m, hm⟩ := h1; exact DataW.trod_lt m _ _ _ hm
  obtain ⟨N, f, hL, hd⟩ := open_scs (hval 0 60 v0 rfl rfl) h0
  obtain ⟨M, g, hU, hd2⟩ := open_scs (hval 1 60 v1 rfl rfl) h1
  have hn : N ≤ 4398046511000 := by
    rcases hd with rfl | ⟨elems, spare, rfl, he⟩
    · omega
    · have q := sized_slice hsz (j := 0) (t := 60) (e := 24) rfl rfl Try.underlying60
      rw [scBytes, reachBytes] at q
      omega
  have hm : M ≤ 4398046511000 := by
    rcases hd2 with rfl | ⟨elems, spare, rfl, he⟩
    · omega
    · have q := sized_slice hsz (j := 1) (t := 60) (e := 24) rfl rfl Try.underlying60
      rw [scBytes, reachBytes] at q
      omega
  clear hA0 hval0
  refine (lists_walk v0 v1 N M f g hn hm W hL hU).mono fun e W' ⟨he, hc⟩ => ?_
  have bel := hc.below
  subst he
  exact ⟨_, rfl, _, _, _, [], _, [], hW', trodAll_mk1 (shut_bool Try.underlying4 _), (trodAll_cons_mk (Below.trod laidOut (by kernel_rfl) (of_decide_eq_true (by kernel_rfl)) h0 bel lt0) (trodAll_cons_mk (Below.trod laidOut (by kernel_rfl) (of_decide_eq_true (by kernel_rfl)) h1 bel lt1) trodAll_mk0)), rfl, bel.frame _, fun h => by cases h⟩

theorem scalarLists_holds : Rows.ScalarListsSaid :=
  OpenClaim.holds_of_wide 7 Try.f7 rfl rfl rfl rfl rfl rfl rfl ⟨rfl, rfl, rfl, rfl, rfl⟩ rfl rfl rfl rfl rfl (by kernel_rfl) Try.func7 (by kernel_rfl)
    (of_decide_eq_true (by kernel_rfl)) (by unfold Func.isWrapper; first | (rw [if_pos (by decide +kernel)]; kernel_rfl) | (rw [if_neg (by decide +kernel)]; exact ⟨rfl, rfl⟩))
    (fun os started H enc _ => scalarLists_lifted os started H enc)
end Go.Proofs.Ytcdgkhejbdlapaa
