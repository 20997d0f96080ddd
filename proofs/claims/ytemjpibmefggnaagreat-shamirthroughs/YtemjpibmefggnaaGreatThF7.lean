/- For every list points of pairs of 32-byte values, rimelaw07.ShamirThroughs returns true and its arguments read afterwards as they read before. No condition. -/
import Derived.Test.YtemjpibmefggnaaGreatRows
import Derived.Test.YtemjpibmefggnaaGreatThW7
import Derived.Test.YtemjpibmefggnaaGreatMgJ
set_option linter.unusedVariables false
set_option linter.unusedSimpArgs false
set_option linter.unnecessarySimpa false
namespace Go.Proofs.YtemjpibmefggnaaGreat
open Go.ChangeShapes Go.WideShapes Go.ChangeAt Go.RowKit Go.Deep N

theorem ptBytes : Tryz.prog.bytesOf 82 = 64 := by kernel_rfl
theorem ptCells : Tryz.prog.cellsOf 82 = 64 := by kernel_rfl
set_option maxRecDepth 100000 in
/-- 64 cells that read as a point. -/
theorem open_point {H : Type} {enc : TypeId × Value → H} {w : World} {base fuel : Nat} {spare : Nat → Bool} {held : Bool} {cs : List Value} {x : DataW H × List MemPlace}
    (hl : cs.length = 64) (hf : DataW.trod enc Tryz.prog w base spare held fuel 82 cs = some x) : ∃ (k m : Nat), k < 115792089237316195423570985008687907853269984665640564039457584007913129639936 ∧ m < 115792089237316195423570985008687907853269984665640564039457584007913129639936 ∧ cs = feL (k : Int) ++ feL (m : Int) := by
  obtain ⟨y0, y1, m, rfl, _, h0, h1⟩ := trod_struct2 Tryz.underlying82 hf
  have h0' : DataW.trod enc Tryz.prog w base spare held m 24 (cs.take 32) = some y0 := by
    rw [scCells] at h0
    exact h0
  have h1' : DataW.trod enc Tryz.prog w base spare held m 24 ((cs.drop 32).take 32) = some y1 := by
    rw [scCells] at h1
    exact h1
  have l0 : (cs.take 32).length = 32 := by rw [List.length_take, hl]; rfl
  have l1 : ((cs.drop 32).take 32).length = 32 := by rw [List.length_take, List.length_drop, hl]; rfl
  obtain ⟨k, hk, hc⟩ := open_cells l0 h0'
  obtain ⟨q, hq, hd⟩ := open_cells l1 h1'
  refine ⟨k, q, hk, hq, ?_⟩
  rw [← cells_fe l0 hc, ← cells_fe l1 hd]
  have e : (cs.drop 32).take 32 = cs.drop 32 := List.take_of_length_le (by rw [List.length_drop, hl]; decide)
  rw [e, List.take_append_drop]
set_option maxRecDepth 100000 in
theorem open_pts {H : Type} {enc : TypeId × Value → H} {w : World} {r : Reach} {b0 base : Nat} {spare : Nat → Bool} {held : Bool} {v : Value} {d : DataW H} {p : List MemPlace}
    (hv : Value.okWide Tryz.prog w r b0 78 v) (h : DataW.Trod enc Tryz.prog w base spare held 78 v d p) :
    ∃ N X Y, Pl w v N X Y ∧ (N = 0 ∨ ∃ elems spare, d = .slice elems spare ∧ elems.length = N) := by
  obtain ⟨fuel, hf⟩ := h
  obtain ⟨a0, l0, c0, rfl⟩ := okWide_slice Tryz.underlying78 hv
  rcases open_slice Tryz.underlying78 hf with ⟨h0, _⟩ | ⟨a, len, cap, m, n, D, Pl', h0, _, hl, hc, hm, hd, hx⟩
  · refine ⟨0, fun _ => 0, fun _ => 0, ⟨⟨pF_ok 0 _ _, Or.inl ⟨rfl, ?_⟩⟩, fun i hi => by omega⟩, Or.inl rfl⟩
    simpa [Value.cells] using h0
  · have h0' : Value.slice a0 l0 c0 = .slice (some a) len cap := by simpa [Value.cells] using h0
    rw [h0'] at hv ⊢
    simp only [Value.okWide, Tryz.underlying78, Cell.okWide, Cell.ok, World.has] at hv
    obtain ⟨_, _, _, hs, row, cells, hsh, _⟩ := hv
    have hlt := shape_lt hsh
    obtain ⟨g, o, spot⟩ := a
    simp only at hs
    subst hs
    have hml : len ≤ m := by rw [hm]; split <;> omega
    have hex : ∀ i, i < len → ∃ z : Nat × Nat, z.1 < 115792089237316195423570985008687907853269984665640564039457584007913129639936 ∧ z.2 < 115792089237316195423570985008687907853269984665640564039457584007913129639936 ∧ w.rangeAt g (o + i * 64) (feL (z.1 : Int) ++ feL (z.2 : Int)) := fun i hi => by
      obtain ⟨cs', h1, h2⟩ := hx i (by omega)
      rw [ptCells] at h1
      obtain ⟨_, hlen', hcell⟩ := World.cells?_some h1
      obtain ⟨a, k, ha, hk, rfl⟩ := open_point hlen' h2
      refine ⟨(a, k), ha, hk, fun j u hu => ?_⟩
      have hj : j < 64 := by have := (List.getElem?_eq_some_iff.1 hu).1; rwa [hlen'] at this
      have hc2 := hcell j hj
      rw [Addr.add_mid g o (i * 64), Addr.add_mid g (o + i * 64) j] at hc2
      rw [hc2]
      exact hu
    refine ⟨len, fun i => if hi : i < len then ((hex i hi).choose.1 : Int) else 0, fun i => if hi : i < len then ((hex i hi).choose.2 : Int) else 0, ⟨⟨pF_ok _ _ _, Or.inr ⟨g, o, cap, rfl, hl, by simpa [maxLen] using hc, hlt, fun i hi => ?_⟩⟩, fun i hi => ?_⟩, Or.inr ⟨_, _, (Prod.mk.inj hd).1, by simp⟩⟩
    · unfold pF
      simp only [hi, dif_pos]
      exact (hex i hi).choose_spec.2.2
    · simp only [hi, dif_pos]
      have a1 := (hex i hi).choose_spec.1
      have a2 := (hex i hi).choose_spec.2.1
      exact ⟨⟨by omega, by omega⟩, ⟨by omega, by omega⟩⟩
set_option maxRecDepth 100000 in
theorem shamirThroughs_lifted (os : Go.Os) (started : os.Started) (H : Type) (enc : TypeId × Value → H) :
    ReturnsInHanded {} Tryz.checked os 6 .any (Rows.shamirThroughsSpec.pre6 enc Tryz.prog Tryz.f6 Rows.shamirThroughsRow.domain false) (Rows.shamirThroughsSpec.post enc Tryz.prog Tryz.f6 false true false false) := by
  refine returnsInHanded_of_change_sized (C := Tryz.checked) own started (by kernel_rfl) Tryz.func6
    (ChangeSpec.witness6 (enc := enc) (C := Tryz.checked) false ⟨#[], #[.slice none 0 0], []⟩ 8 (by kernel_rfl) (by kernel_rfl) (by kernel_rfl) (by kernel_rfl)) ?_
  intro W base args ds gs before hval0 hW _ hsz0 _
  have hval : ∀ (j : Nat) t v, Tryz.f6.params[j]? = some t → args[j]? = some v → Value.okWide Tryz.prog W .any base t v := hval0
  have hsz : (DataW.weightsEach Tryz.prog (Tryz.f6.params.toList ++ Rows.shamirThroughsSpec.plain.varTypes Tryz.prog) (ds ++ gs)).all (· ≤ reachBytes) = true := hsz0
  have hW' := hW
  obtain ⟨p, q, hA0, hV, rfl, hfz, hnd⟩ := hW
  have hA : DataW.TrodAll enc Tryz.prog W 0 (fun _ => true) true Tryz.f6.params.toList args.toList ds p := hA0
  rw [Tryz.params6] at hA hval hsz
  obtain ⟨v0, d0, rfl, rfl, h0⟩ := trodAll_one hA
  obtain ⟨rfl, rfl⟩ := trodVars_none hV
  have lt0 : ∀ x ∈ p, x.block < W.heap.size := by obtain ⟨m, hm⟩ := h0; exact DataW.trod_lt m _ _ _ hm
  obtain ⟨N, X, Y, hL, hd⟩ := open_pts (hval 0 78 v0 rfl rfl) h0
  have hn : N ≤ 2199023255488 := by
    rcases hd with rfl | ⟨elems, spare, rfl, he⟩
    · omega
    · have q := sized_slice hsz (j := 0) (t := 78) (e := 82) rfl rfl Tryz.underlying78
      rw [ptBytes, reachBytes] at q
      omega
  clear hA0 hval0
  refine (throughs_walk v0 N X Y hn W hL).mono fun e W' ⟨he, hc⟩ => ?_
  have bel := hc.below
  subst he
  exact ⟨_, rfl, _, _, _, [], _, [], hW', trodAll_mk1 (shut_bool Tryz.underlying4 _), (trodAll_mk1 (Below.trod laidOut (by kernel_rfl) (of_decide_eq_true (by kernel_rfl)) h0 bel lt0)), rfl, bel.frame _, fun h => by cases h⟩

theorem shamirThroughs_holds : Rows.ShamirThroughsSaid :=
  OpenClaim.holds_of_wide 6 Tryz.f6 rfl rfl rfl rfl rfl rfl rfl ⟨rfl, rfl, rfl, rfl, rfl⟩ rfl rfl rfl rfl rfl (by kernel_rfl) Tryz.func6 (by kernel_rfl)
    (of_decide_eq_true (by kernel_rfl)) (by unfold Func.isWrapper; first | (rw [if_pos (by decide +kernel)]; kernel_rfl) | (rw [if_neg (by decide +kernel)]; exact ⟨rfl, rfl⟩))
    (fun os started H enc _ => shamirThroughs_lifted os started H enc)
end Go.Proofs.YtemjpibmefggnaaGreat
