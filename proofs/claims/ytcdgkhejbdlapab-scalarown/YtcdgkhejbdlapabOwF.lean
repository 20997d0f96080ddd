/- For every two lists l, m of 32-byte values and every 32-byte value a, rimelaw02.ScalarOwn returns true and its arguments read afterwards as they read before. No condition. -/
import Derived.Test.YtcdgkhejbdlapabRows
import Derived.Test.YtcdgkhejbdlapabOwW
import Derived.Test.YtcdgkhejbdlapabOpenL
import Derived.Test.YtcdgkhejbdlapabOpenB
set_option linter.unusedVariables false
set_option linter.unusedSimpArgs false
set_option linter.unnecessarySimpa false
namespace Go.Proofs.Ytcdgkhejbdlapab
open Go.ChangeShapes Go.WideShapes Go.ChangeAt Go.RowKit Go.Deep N

theorem scBytes : Try.prog.bytesOf 23 = 32 := by kernel_rfl
set_option maxRecDepth 100000 in
theorem scalarOwn_lifted (os : Os) (started : os.Started) (H : Type) (enc : TypeId × Value → H) :
    ReturnsInHanded {} Try.checked os 7 .any (Rows.scalarOwnSpec.pre6 enc Try.prog Try.f7 Rows.scalarOwnRow.domain false) (Rows.scalarOwnSpec.post enc Try.prog Try.f7 false true false false) := by
  refine returnsInHanded_of_change_sized (C := Try.checked) own started (by kernel_rfl) Try.func7
    (ChangeSpec.witness6 (enc := enc) (C := Try.checked) false ⟨#[], #[.slice none 0 0, .slice none 0 0, .agg z32], []⟩ 8 (by kernel_rfl) (by kernel_rfl) (by kernel_rfl) (by kernel_rfl)) ?_
  intro W base args ds gs before hval0 hW _ hsz0 _
  have hval : ∀ (j : Nat) t v, Try.f7.params[j]? = some t → args[j]? = some v → Value.okWide Try.prog W .any base t v := hval0
  have hsz : (DataW.weightsEach Try.prog (Try.f7.params.toList ++ Rows.scalarOwnSpec.plain.varTypes Try.prog) (ds ++ gs)).all (· ≤ reachBytes) = true := hsz0
  have hW' := hW
  obtain ⟨p, q, hA0, hV, rfl, hfz, hnd⟩ := hW
  have hA : DataW.TrodAll enc Try.prog W 0 (fun _ => true) true Try.f7.params.toList args.toList ds p := hA0
  rw [Try.params7] at hA hval hsz
  obtain ⟨v0, v1, v2, d0, d1, d2, p0, p1, p2, rfl, rfl, rfl, h0, h1, h2⟩ := trodAll_three hA
  obtain ⟨rfl, rfl⟩ := trodVars_none hV
  have lt0 : ∀ x ∈ p0, x.block < W.heap.size := by obtain ⟨m, hm⟩ := h0; exact DataW.trod_lt m _ _ _ hm
  have lt1 : ∀ x ∈ p1, x.block < W.heap.size := by obtain ⟨m, hm⟩ := h1; exact DataW.trod_lt m _ _ _ hm
  have lt2 : ∀ x ∈ p2, x.block < W.heap.size := by obtain ⟨m, hm⟩ := h2; exact DataW.trod_lt m _ _ _ hm
  obtain ⟨a, ra, rfl⟩ := open_fe (hval 2 23 v2 rfl rfl) h2
  obtain ⟨m, rfl, hm⟩ := nat_r256 ra
  obtain ⟨N, f, hL, hd⟩ := open_scs (hval 0 52 v0 rfl rfl) h0
  obtain ⟨M, g, hM, hd'⟩ := open_scs (hval 1 52 v1 rfl rfl) h1
  have hn : N ≤ 4398046510976 := by
    rcases hd with rfl | ⟨elems, spare, rfl, he⟩
    · omega
    · have q := sized_slice hsz (j := 0) (t := 52) (e := 23) rfl rfl Try.underlying52
      rw [scBytes, reachBytes] at q
      omega
  have hm' : M ≤ 4398046510976 := by
    rcases hd' with rfl | ⟨elems, spare, rfl, he⟩
    · omega
    · have q := sized_slice hsz (j := 1) (t := 52) (e := 23) rfl rfl Try.underlying52
      rw [scBytes, reachBytes] at q
      omega
  clear hA0 hval0
  refine (own_walk v0 v1 N M m f g hn hm' hm W hL hM).mono fun e W' ⟨he, hc⟩ => ?_
  have bel := hc.below
  subst he
  exact ⟨_, rfl, _, _, _, [], _, [], hW', trodAll_mk1 (shut_bool Try.underlying4 _), (trodAll_cons_mk (Below.trod laidOut (by kernel_rfl) (of_decide_eq_true (by kernel_rfl)) h0 bel lt0) (trodAll_cons_mk (Below.trod laidOut (by kernel_rfl) (of_decide_eq_true (by kernel_rfl)) h1 bel lt1) (trodAll_cons_mk (Below.trod laidOut (by kernel_rfl) (of_decide_eq_true (by kernel_rfl)) h2 bel lt2) trodAll_mk0))), rfl, bel.frame _, fun h => by cases h⟩

theorem scalarOwn_holds : Rows.ScalarOwnSaid :=
  OpenClaim.holds_of_wide 7 Try.f7 rfl rfl rfl rfl rfl rfl rfl ⟨rfl, rfl, rfl, rfl, rfl⟩ rfl rfl rfl rfl rfl (by kernel_rfl) Try.func7 (by kernel_rfl)
    (of_decide_eq_true (by kernel_rfl)) (by unfold Func.isWrapper; first | (rw [if_pos (by decide +kernel)]; kernel_rfl) | (rw [if_neg (by decide +kernel)]; exact ⟨rfl, rfl⟩))
    (fun os started H enc _ => scalarOwn_lifted os started H enc)
end Go.Proofs.Ytcdgkhejbdlapab
