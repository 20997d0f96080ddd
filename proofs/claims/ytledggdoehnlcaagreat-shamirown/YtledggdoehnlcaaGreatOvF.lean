/- For every list coefs of 32-byte values, every list ids of ints, every list of shares, every int t and every list of points, rimelaw07.ShamirOwn returns true and its arguments read afterwards as they read before. No condition. -/
import Derived.Test.YtledggdoehnlcaaGreatRows
import Derived.Test.YtledggdoehnlcaaGreatOvW
import Derived.Test.YtledggdoehnlcaaGreatMgJ
set_option linter.unusedVariables false
set_option linter.unusedSimpArgs false
set_option linter.unnecessarySimpa false
namespace Go.Proofs.YtledggdoehnlcaaGreat
open Go.ChangeShapes Go.WideShapes Go.ChangeAt Go.RowKit Go.Deep N

theorem scBytes : Tryz.prog.bytesOf 24 = 32 := by kernel_rfl
theorem intBytes : Tryz.prog.bytesOf 3 = 8 := by kernel_rfl
theorem shBytes : Tryz.prog.bytesOf 28 = 40 := by kernel_rfl
theorem trodAll_five {H : Type} {enc : TypeId × Value → H} {P : Program} {w : World} {base : Nat} {spare : Nat → Bool} {held : Bool} {t ta tb t3 t4 : TypeId} {args : Array Value} {ds : List (DataW H)} {ps : List MemPlace} (h : DataW.TrodAll enc P w base spare held [t, ta, tb, t3, t4] args.toList ds ps) :
    ∃ v va vb v3 v4 d da db d3 d4 p pa pb p3 p4, args = #[v, va, vb, v3, v4] ∧ ds = [d, da, db, d3, d4] ∧ ps = p ++ pa ++ pb ++ p3 ++ p4 ∧ DataW.Trod enc P w base spare held t v d p ∧ DataW.Trod enc P w base spare held ta va da pa ∧ DataW.Trod enc P w base spare held tb vb db pb ∧ DataW.Trod enc P w base spare held t3 v3 d3 p3 ∧ DataW.Trod enc P w base spare held t4 v4 d4 p4 := by
  obtain ⟨v, vs, d, dsa, p, q, hargs, rfl, rfl, hd, hrest⟩ := trodAll_cons h
  obtain ⟨va, vsa, da, dsb, pa, qa, rfl, rfl, rfl, hda, hresta⟩ := trodAll_cons hrest
  obtain ⟨vb, vsb, db, dsX, pb, qb, rfl, rfl, rfl, hdb, hrestb⟩ := trodAll_cons hresta
  obtain ⟨v3, vs3, d3, ds3, p3, q3, rfl, rfl, rfl, hd3, hrest3⟩ := trodAll_cons hrestb
  obtain ⟨v4, vs4, d4, ds4, p4, q4, rfl, rfl, rfl, hd4, hrest4⟩ := trodAll_cons hrest3
  obtain ⟨rfl, rfl, rfl⟩ := trodAll_nil hrest4
  exact ⟨v, va, vb, v3, v4, d, da, db, d3, d4, p, pa, pb, p3, p4, by cases args; simp_all, rfl, by simp, hd, hda, hdb, hd3, hd4⟩
set_option maxRecDepth 100000 in
theorem shamirOwn_lifted (os : Go.Os) (started : os.Started) (H : Type) (enc : TypeId × Value → H) :
    ReturnsInHanded {} Tryz.checked os 4 .any (Rows.shamirOwnSpec.pre6 enc Tryz.prog Tryz.f4 Rows.shamirOwnRow.domain false) (Rows.shamirOwnSpec.post enc Tryz.prog Tryz.f4 false true false false) := by
  refine returnsInHanded_of_change_sized (C := Tryz.checked) own started (by kernel_rfl) Tryz.func4
    (ChangeSpec.witness6 (enc := enc) (C := Tryz.checked) false ⟨#[], #[.slice none 0 0, .slice none 0 0, .slice none 0 0, .int .i64 0, .slice none 0 0], []⟩ 8 (by kernel_rfl) (by kernel_rfl) (by kernel_rfl) (by kernel_rfl)) ?_
  intro W base args ds gs before hval0 hW _ hsz0 _
  have hval : ∀ (j : Nat) t v, Tryz.f4.params[j]? = some t → args[j]? = some v → Value.okWide Tryz.prog W .any base t v := hval0
  have hsz : (DataW.weightsEach Tryz.prog (Tryz.f4.params.toList ++ Rows.shamirOwnSpec.plain.varTypes Tryz.prog) (ds ++ gs)).all (· ≤ reachBytes) = true := hsz0
  have hW' := hW
  obtain ⟨p, q, hA0, hV, rfl, hfz, hnd⟩ := hW
  have hA : DataW.TrodAll enc Tryz.prog W 0 (fun _ => true) true Tryz.f4.params.toList args.toList ds p := hA0
  rw [Tryz.params4] at hA hval hsz
  obtain ⟨v0, v1, v2, v3, v4, d0, d1, d2, d3, d4, p0, p1, p2, p3, p4, rfl, rfl, rfl, h0, h1, h2, h3, h4⟩ := trodAll_five hA
  obtain ⟨rfl, rfl⟩ := trodVars_none hV
  have lt0 : ∀ x ∈ p0, x.block < W.heap.size := by obtain ⟨m, hm⟩ := h0; exact DataW.trod_lt m _ _ _ hm
  have lt1 : ∀ x ∈ p1, x.block < W.heap.size := by obtain ⟨m, hm⟩ := h1; exact DataW.trod_lt m _ _ _ hm
  have lt2 : ∀ x ∈ p2, x.block < W.heap.size := by obtain ⟨m, hm⟩ := h2; exact DataW.trod_lt m _ _ _ hm
  have lt3 : ∀ x ∈ p3, x.block < W.heap.size := by obtain ⟨m, hm⟩ := h3; exact DataW.trod_lt m _ _ _ hm
  have lt4 : ∀ x ∈ p4, x.block < W.heap.size := by obtain ⟨m, hm⟩ := h4; exact DataW.trod_lt m _ _ _ hm
  obtain ⟨A, a, hLa, hda⟩ := open_scs (hval 0 29 v0 rfl rfl) h0
  obtain ⟨N, f, hLi, _, hdb⟩ := open_il (hval 1 26 v1 rfl rfl) h1
  obtain ⟨S, sd, sy, hLs, _, hdc⟩ := open_shs (hval 2 22 v2 rfl rfl) h2
  obtain ⟨t, rfl, _, _, _⟩ := open_int Tryz.underlying3 (hval 3 3 v3 rfl rfl) h3
  obtain ⟨P, X, Y, hLp, hdd⟩ := open_pts (hval 4 42 v4 rfl rfl) h4
  have hA : A ≤ 4611686018427387904 := by
    rcases hda with rfl | ⟨elems, spare, rfl, he⟩
    · omega
    · have q := sized_slice hsz (j := 0) (t := 29) (e := 24) rfl rfl Tryz.underlying29
      rw [scBytes, reachBytes] at q
      omega
  have hN : N ≤ 4611686018427387904 := by
    rcases hdb with rfl | ⟨elems, spare, rfl, he⟩
    · omega
    · have q := sized_slice hsz (j := 1) (t := 26) (e := 3) rfl rfl Tryz.underlying26
      rw [intBytes, reachBytes] at q
      omega
  have hS : S ≤ 4611686018427387904 := by
    rcases hdc with rfl | ⟨elems, spare, rfl, he⟩
    · omega
    · have q := sized_slice hsz (j := 2) (t := 22) (e := 28) rfl rfl Tryz.underlying22
      rw [shBytes, reachBytes] at q
      omega
  have hP : P ≤ 4611686018427387904 := by
    rcases hdd with rfl | ⟨elems, spare, rfl, he⟩
    · omega
    · have q := sized_slice hsz (j := 4) (t := 42) (e := 97) rfl rfl Tryz.underlying42
      rw [ptBytes, reachBytes] at q
      omega
  clear hA0 hval0
  refine (own_walk v0 v1 v2 v4 A N S P a f sd sy X Y t hA hN hS hP W hLa hLi hLs hLp).mono fun e W' ⟨he, hc⟩ => ?_
  have bel := hc.below
  subst he
  exact ⟨_, rfl, _, _, _, [], _, [], hW', trodAll_mk1 (shut_bool Tryz.underlying4 _), (trodAll_cons_mk (Below.trod laidOut (by kernel_rfl) (of_decide_eq_true (by kernel_rfl)) h0 bel lt0) (trodAll_cons_mk (Below.trod laidOut (by kernel_rfl) (of_decide_eq_true (by kernel_rfl)) h1 bel lt1) (trodAll_cons_mk (Below.trod laidOut (by kernel_rfl) (of_decide_eq_true (by kernel_rfl)) h2 bel lt2) (trodAll_cons_mk (Below.trod laidOut (by kernel_rfl) (of_decide_eq_true (by kernel_rfl)) h3 bel lt3) (trodAll_cons_mk (Below.trod laidOut (by kernel_rfl) (of_decide_eq_true (by kernel_rfl)) h4 bel lt4) trodAll_mk0))))), rfl, bel.frame _, fun h => by cases h⟩

theorem shamirOwn_holds : Rows.ShamirOwnSaid :=
  OpenClaim.holds_of_wide 4 Tryz.f4 rfl rfl rfl rfl rfl rfl rfl ⟨rfl, rfl, rfl, rfl, rfl⟩ rfl rfl rfl rfl rfl (by kernel_rfl) Tryz.func4 (by kernel_rfl)
    (of_decide_eq_true (by kernel_rfl)) (by unfold Func.isWrapper; first | (rw [if_pos (by decide +kernel)]; kernel_rfl) | (rw [if_neg (by decide +kernel)]; exact ⟨rfl, rfl⟩))
    (fun os started H enc _ => shamirOwn_lifted os started H enc)
end Go.Proofs.YtledggdoehnlcaaGreat
