/- For all lists l and k of 32-byte values, rimelaw01.FieldOwn returns true and its arguments read afterwards as they read before. No condition. -/
import Derived.Test.YtialljmkkichiabOpen
import Derived.Test.YtialljmkkichiabBytC
import Derived.Deep.Slices
import Derived.SizedLaws
import Derived.Below
import Derived.Test.YtialljmkkichiabRows
import Derived.Test.YtialljmkkichiabFOwW
import Derived.Test.YtialljmkkichiabAlive
import Derived.Test.YtialljmkkichiabMath
set_option linter.unusedVariables false
set_option linter.unusedSimpArgs false
set_option linter.unnecessarySimpa false
namespace Go.Proofs.Ytialljmkkichiab
section
open Go.ChangeShapes Go.WideShapes Go.ChangeAt Go.RowKit Go.Deep N

theorem u8Bytes : Try.prog.bytesOf 5 = 1 := by kernel_rfl
theorem nat_r256 {a : Int} (ra : R256 a) : ∃ n : Nat, a = (n : Int) ∧ n < 115792089237316195423570985008687907853269984665640564039457584007913129639936 := by
  obtain ⟨n, rfl⟩ := Int.eq_ofNat_of_zero_le ra.1
  exact ⟨n, rfl, by unfold R256 at ra; omega⟩
theorem shape_lt {w : World} {b : Nat} {x : TypeId × Nat} (h : w.shape? b = some x) : b < w.heap.size := by
  unfold World.shape? at h
  by_cases hb : b < w.heap.size
  · exact hb
  · rw [Array.getElem?_eq_none (by omega)] at h
    simp at h
set_option maxRecDepth 100000 in
/-- 32 cells that read as an api.Scalar are the bytes of some number. -/
theorem open_cells {H : Type} {enc : TypeId × Value → H} {w : World} {base fuel : Nat} {spare : Nat → Bool} {held : Bool} {cs : List Value} {x : DataW H × List MemPlace}
    (hlen0 : cs.length = 32) (hf : DataW.trod enc Try.prog w base spare held fuel 23 cs = some x) : ∃ n : Nat, n < 115792089237316195423570985008687907853269984665640564039457584007913129639936 ∧ ∀ i, i < 32 → cs[i]? = some (.int .u8 (by8 (n : Int) i)) := by
  obtain ⟨xs, m, _, _, _, hlen, hall⟩ := DataW.trod_array Try.underlying23 hf
  have hb : ∀ i, i < 32 → ∃ b, cs[i]? = some (.int .u8 b) ∧ 0 ≤ b ∧ b < 256 := fun i hi => by
    have h1 := hall i hi
    rw [List.getElem?_eq_getElem (by omega), u8Cells, Nat.mul_one] at h1
    obtain ⟨n, e1, _, wf⟩ := DataW.trod_int Try.underlying5 h1
    have u := u8_wf wf
    have e2 := congrArg (fun l => l[0]?) e1
    simp only [List.getElem?_take, List.getElem?_drop] at e2
    exact ⟨n, by simpa using e2, u.1, u.2⟩
  obtain ⟨b, hb'⟩ : ∃ b : Nat → Int, ∀ i, i < 32 → cs[i]? = some (.int .u8 (b i)) ∧ 0 ≤ b i ∧ b i < 256 := by
    refine ⟨fun i => if hi : i < 32 then (hb i hi).choose else 0, fun i hi => ?_⟩
    simp only [hi, dif_pos]
    exact (hb i hi).choose_spec
  obtain ⟨n, hn, hby⟩ := num_of_bytes b (fun i hi => (hb' i hi).2)
  obtain ⟨k, rfl, hk⟩ := nat_r256 hn
  exact ⟨k, hk, fun i hi => by rw [(hb' i hi).1, hby i hi]⟩
theorem scCells : Try.prog.cellsOf 23 = 32 := by kernel_rfl
set_option maxRecDepth 100000 in
/-- A []api.Scalar that came in. -/
theorem open_scs {H : Type} {enc : TypeId × Value → H} {w : World} {r : Reach} {b0 base : Nat} {spare : Nat → Bool} {held : Bool} {v : Value} {d : DataW H} {p : List MemPlace}
    (hv : Value.okWide Try.prog w r b0 52 v) (h : DataW.Trod enc Try.prog w base spare held 52 v d p) :
    ∃ N f, Ls w v N f ∧ (N = 0 ∨ ∃ elems spare, d = .slice elems spare ∧ elems.length = N) := by
  obtain ⟨fuel, hf⟩ := h
  obtain ⟨a0, l0, c0, rfl⟩ := okWide_slice Try.underlying52 hv
  rcases open_slice Try.underlying52 hf with ⟨h0, _⟩ | ⟨a, len, cap, m, n, D, Pl, h0, _, hl, hc, hm, hd, hx⟩
  · refine ⟨0, fun _ => 0, ⟨fun i hi => by omega, Or.inl ⟨rfl, ?_⟩⟩, Or.inl rfl⟩
    simpa [Value.cells] using h0
  · have h0' : Value.slice a0 l0 c0 = .slice (some a) len cap := by simpa [Value.cells] using h0
    rw [h0'] at hv ⊢
    simp only [Value.okWide, Try.underlying52, Cell.okWide, Cell.ok, World.has] at hv
    obtain ⟨_, _, _, hs, row, cells, hsh, _⟩ := hv
    have hlt := shape_lt hsh
    obtain ⟨g, o, spot⟩ := a
    simp only at hs
    subst hs
    have hml : len ≤ m := by rw [hm]; split <;> omega
    have hex : ∀ i, i < len → ∃ k : Nat, k < 115792089237316195423570985008687907853269984665640564039457584007913129639936 ∧ Fc w g (o + i * 32) (k : Int) := fun i hi => by
      obtain ⟨cs', h1, h2⟩ := hx i (by omega)
      rw [scCells] at h1
      obtain ⟨_, hlen', hcell⟩ := World.cells?_some h1
      obtain ⟨k, hk, hkb⟩ := open_cells hlen' h2
      refine ⟨k, hk, hlt, fun j hj => ?_⟩
      have hc2 := hcell j hj
      rw [Addr.add_mid g o (i * 32), Addr.add_mid g (o + i * 32) j, hkb j hj] at hc2
      exact hc2
    refine ⟨len, fun i => if hi : i < len then (hex i hi).choose else 0, ⟨fun i hi => ?_, Or.inr ⟨g, o, cap, rfl, hl, by simpa [maxLen] using hc, hlt, fun i hi => ?_⟩⟩, Or.inr ⟨_, _, (Prod.mk.inj hd).1, by simp⟩⟩
    · simp only [hi, dif_pos]
      exact (hex i hi).choose_spec.1
    · simp only [hi, dif_pos]
      exact (hex i hi).choose_spec.2
theorem feBytes : Try.prog.bytesOf 23 = 32 := by kernel_rfl
end
section
open Go.ChangeShapes Go.WideShapes Go.ChangeAt Go.RowKit Go.Deep N

set_option maxRecDepth 100000 in
theorem fieldOwn_lifted (os : Os) (started : os.Started) (H : Type) (enc : TypeId × Value → H) :
    ReturnsInHanded {} Try.checked os 8 .any (Rows.fieldOwnSpec.pre6 enc Try.prog Try.f8 Rows.fieldOwnRow.domain false) (Rows.fieldOwnSpec.post enc Try.prog Try.f8 false true false false) := by
  refine returnsInHanded_of_change_sized (C := Try.checked) own started (by kernel_rfl) Try.func8
    (ChangeSpec.witness6 (enc := enc) (C := Try.checked) false ⟨#[], #[.slice none 0 0, .slice none 0 0], []⟩ 8 (by kernel_rfl) (by kernel_rfl) (by kernel_rfl) (by kernel_rfl)) ?_
  intro W base args ds gs before hval0 hW _ hsz0 _
  have hval : ∀ (j : Nat) t v, Try.f8.params[j]? = some t → args[j]? = some v → Value.okWide Try.prog W .any base t v := hval0
  have hsz : (DataW.weightsEach Try.prog (Try.f8.params.toList ++ Rows.fieldOwnSpec.plain.varTypes Try.prog) (ds ++ gs)).all (· ≤ reachBytes) = true := hsz0
  have hW' := hW
  obtain ⟨p, q, hA0, hV, rfl, hfz, hnd⟩ := hW
  have hA : DataW.TrodAll enc Try.prog W 0 (fun _ => true) true Try.f8.params.toList args.toList ds p := hA0
  rw [Try.params8] at hA hval hsz
  obtain ⟨v0, v1, d0, d1, p0, p1, rfl, rfl, rfl, h0, h1⟩ := trodAll_two hA
  obtain ⟨rfl, rfl⟩ := trodVars_none hV
  have lt0 : ∀ x ∈ p0, x.block < W.heap.size := by obtain ⟨m, hm⟩ := h0; exact DataW.trod_lt m _ _ _ hm
  have lt1 : ∀ x ∈ p1, x.block < W.heap.size := by obtain ⟨m, hm⟩ := h1; exact DataW.trod_lt m _ _ _ hm
  obtain ⟨N, f, hL, hd⟩ := open_scs (hval 0 52 v0 rfl rfl) h0
  obtain ⟨M, g, hM, he⟩ := open_scs (hval 1 52 v1 rfl rfl) h1
  have hn : N ≤ 4398046510976 := by
    rcases hd with rfl | ⟨elems, spare, rfl, he⟩
    · omega
    · have q := sized_slice hsz (j := 0) (t := 52) (e := 23) rfl rfl Try.underlying52
      rw [feBytes, reachBytes] at q
      omega
  have hm : M ≤ 4398046510976 := by
    rcases he with rfl | ⟨elems, spare, rfl, he⟩
    · omega
    · have q := sized_slice hsz (j := 1) (t := 52) (e := 23) rfl rfl Try.underlying52
      rw [feBytes, reachBytes] at q
      omega
  clear hA0 hval0
  refine (own_walk alive_true v0 v1 N M f g hn hm W hL hM).mono fun e W' ⟨he, hc⟩ => ?_
  have bel := hc.below
  subst he
  exact ⟨_, rfl, _, _, _, [], _, [], hW', trodAll_mk1 (shut_bool Try.underlying4 _), (trodAll_cons_mk (Below.trod laidOut (by kernel_rfl) (of_decide_eq_true (by kernel_rfl)) h0 bel lt0) (trodAll_cons_mk (Below.trod laidOut (by kernel_rfl) (of_decide_eq_true (by kernel_rfl)) h1 bel lt1) trodAll_mk0)), rfl, bel.frame _, fun h => by cases h⟩

theorem fieldOwn_holds : Rows.FieldOwnSaid :=
  OpenClaim.holds_of_wide 8 Try.f8 rfl rfl rfl rfl rfl rfl rfl ⟨rfl, rfl, rfl, rfl, rfl⟩ rfl rfl rfl rfl rfl (by kernel_rfl) Try.func8 (by kernel_rfl)
    (of_decide_eq_true (by kernel_rfl)) (by unfold Func.isWrapper; first | (rw [if_pos (by decide +kernel)]; kernel_rfl) | (rw [if_neg (by decide +kernel)]; exact ⟨rfl, rfl⟩))
    (fun os started H enc _ => fieldOwn_lifted os started H enc)
end
end Go.Proofs.Ytialljmkkichiab
