/- For every eight uint64 w, every []byte b and every uint64 n, rimelaw03.Sha512Blocks returns true and its arguments read afterwards as they read before. Its condition, tied by the card: the package variables firstWords and roundWords of sha512 start as the program's text lays them. -/
import Derived.Test.YtjcgjhncdaplcaaDoorSOpen
import Derived.Test.YtjcgjhncdaplcaaDoorBlkW
import Derived.Test.YtjcgjhncdaplcaaDoorTie
import Derived.Test.YtjcgjhncdaplcaaDoorCards
import Derived.SevenTiedAt
set_option linter.constructorNameAsVariable false
set_option linter.unusedVariables false
set_option linter.unusedSimpArgs false
set_option linter.unnecessarySimpa false
namespace Go.Proofs.YtjcgjhncdaplcaaDoor
open Go.ChangeShapes Go.WideShapes Go.ChangeAt Go.RowKit Go.Deep

theorem u64_wf {n : Int} (h : (Lit.int .u64 n).wf = true) : 0 ≤ n ∧ n < 18446744073709551616 := by
  have := bounds_u64 h
  omega
theorem chunk1 {cs : Array Value} {i : Nat} {v : Value} (e1 : ((cs.toList.drop i).take 1) = [v]) : cs[i]? = some v := by
  have e2 := congrArg (fun l => l[0]?) e1
  simp only [List.getElem?_take, List.getElem?_drop] at e2
  simpa using e2
set_option maxRecDepth 100000 in
/-- Eight words that came in. -/
theorem open_s8 {H : Type} {enc : TypeId × Value → H} {w : World} {r : Reach} {b0 base : Nat} {spare : Nat → Bool} {held : Bool} {v : Value} {d : DataW H} {p : List MemPlace}
    (hv : Value.okWide Tryd.prog w r b0 53 v) (h : DataW.Trod enc Tryd.prog w base spare held 53 v d p) : ∃ s, (∀ i, i < 8 → U (s i)) ∧ v = .agg (vC 8 s) := by
  simp only [Value.okWide, Tryd.underlying53] at hv
  obtain ⟨cs, rfl, hsz, _⟩ := hv
  rw [S8Cells] at hsz
  obtain ⟨fuel, hf⟩ := h
  obtain ⟨xs, m, _, _, _, hlen, hall⟩ := DataW.trod_array Tryd.underlying53 hf
  have hb : ∀ i, i < 8 → ∃ b : Nat, cs[i]? = some (.int .u64 (b : Int)) ∧ b < 18446744073709551616 := fun i hi => by
    have h1 := hall i hi
    rw [List.getElem?_eq_getElem (by omega), u64Cells, Nat.mul_one] at h1
    obtain ⟨n, e1, _, wf⟩ := DataW.trod_int Tryd.underlying52 h1
    have u := u64_wf wf
    obtain ⟨k, rfl⟩ := Int.eq_ofNat_of_zero_le u.1
    exact ⟨k, chunk1 e1, by omega⟩
  refine ⟨fun i => if hi : i < 8 then (hb i hi).choose else 0, fun i hi => ?_, congrArg Value.agg ?_⟩
  · simp only [hi, dif_pos]
    exact (hb i hi).choose_spec.2
  · apply Array.ext_getElem?
    intro i
    by_cases hi : i < 8
    · rw [vC_get 8 _ i hi]
      simp only [hi, dif_pos]
      exact (hb i hi).choose_spec.1
    · rw [Array.getElem?_eq_none (by omega), Array.getElem?_eq_none (by rw [vC_size]; omega)]
set_option maxRecDepth 100000 in
/-- A uint64 that came in. -/
theorem open_u64 {H : Type} {enc : TypeId × Value → H} {w : World} {r : Reach} {b0 base : Nat} {spare : Nat → Bool} {held : Bool} {v : Value} {d : DataW H} {p : List MemPlace}
    (hv : Value.okWide Tryd.prog w r b0 52 v) (h : DataW.Trod enc Tryd.prog w base spare held 52 v d p) : ∃ n : Nat, v = .int .u64 (n : Int) ∧ n < 18446744073709551616 := by
  obtain ⟨k, rfl, _, _, wf⟩ := open_int Tryd.underlying52 hv h
  have hb := bounds_u64 wf
  clear hv h wf
  obtain ⟨n, rfl⟩ := Int.eq_ofNat_of_zero_le (show 0 ≤ k by omega)
  exact ⟨n, rfl, by omega⟩
set_option maxRecDepth 100000 in
theorem blocks_lifted (os : Os) (started : os.Started) (H : Type) (enc : TypeId × Value → H) :
    ReturnsInHanded {} Tryd.checked os 4 .any (fun w args => (Rows.sha512BlocksSpec.pre enc Tryd.prog Tryd.f4 [] false w args ∧ laidMetH Tryd.prog tabs w) ∧ sizedMet enc Tryd.prog Tryd.f4 (OpenSpec.ofChange Rows.sha512BlocksSpec) false w args)
      (Rows.sha512BlocksSpec.post enc Tryd.prog Tryd.f4 false true false false) := by
  refine returnsInHanded_of_change_and (C := Tryd.checked) (X := fun w _ => laidMetH Tryd.prog tabs w) (fun _ _ _ hh h => h.of_heap hh) own started (by kernel_rfl) Tryd.func4
    (ChangeSpec.witness_shaped (enc := enc) (C := Tryd.checked) (os := os) (X := fun w _ => laidMetH Tryd.prog tabs w) false (World.doorLaid Tryd.prog 400 os) #[.agg (vC 8 fun _ => 0), .slice none 0 0, .int .u64 0] 8 rfl (World.shaped_of_RefB (by kernel_rfl) (by kernel_rfl)) (by kernel_rfl) (by kernel_rfl) (by kernel_rfl) (door_met os _)) ?_
  intro W base args ds gs before hval0 hW _ hsz0 hL _
  have hval : ∀ (j : Nat) t v, Tryd.f4.params[j]? = some t → args[j]? = some v → Value.okWide Tryd.prog W .any base t v := hval0
  have hsz : (DataW.weightsEach Tryd.prog (Tryd.f4.params.toList ++ Rows.sha512BlocksSpec.plain.varTypes Tryd.prog) (ds ++ gs)).all (· ≤ reachBytes) = true := hsz0
  have hW' := hW
  obtain ⟨p, q, hA0, hV, rfl, hfz, hnd⟩ := hW
  have hA : DataW.TrodAll enc Tryd.prog W 0 (fun _ => true) true Tryd.f4.params.toList args.toList ds p := hA0
  rw [Tryd.params4] at hA hval hsz
  obtain ⟨v0, v1, v2, d0, d1, d2, p0, p1, p2, rfl, rfl, rfl, h0, h1, h2⟩ := trodAll_three hA
  obtain ⟨rfl, rfl⟩ := trodVars_none hV
  have lt0 : ∀ x ∈ p0, x.block < W.heap.size := by obtain ⟨m, hm⟩ := h0; exact DataW.trod_lt m _ _ _ hm
  have lt1 : ∀ x ∈ p1, x.block < W.heap.size := by obtain ⟨m, hm⟩ := h1; exact DataW.trod_lt m _ _ _ hm
  have lt2 : ∀ x ∈ p2, x.block < W.heap.size := by obtain ⟨m, hm⟩ := h2; exact DataW.trod_lt m _ _ _ hm
  obtain ⟨s, hs, rfl⟩ := open_s8 (hval 0 53 v0 rfl rfl) h0
  obtain ⟨n, f, hS, hd⟩ := open_bytes (hval 1 22 v1 rfl rfl) h1
  obtain ⟨c, rfl, hc⟩ := open_u64 (hval 2 52 v2 rfl rfl) h2
  have hn : n ≤ 140737488355328 := by
    rcases hd with rfl | ⟨elems, spare, rfl, he⟩
    · omega
    · have q := sized_slice hsz (j := 1) (t := 22) (e := 5) rfl rfl Tryd.underlying22
      rw [u8Bytes, reachBytes] at q
      omega
  clear hA0 hval0
  refine (blocks_walk s hs v1 n f hn c W (gl_of_laid hL) hS).mono fun e W' ⟨he, hc⟩ => ?_
  have bel := hc.below
  subst he
  exact ⟨_, rfl, _, _, _, [], _, [], hW', trodAll_mk1 (shut_bool Tryd.underlying4 _), (trodAll_cons_mk (Below.trod laidOut (by kernel_rfl) (of_decide_eq_true (by kernel_rfl)) h0 bel lt0) (trodAll_cons_mk (Below.trod laidOut (by kernel_rfl) (of_decide_eq_true (by kernel_rfl)) h1 bel lt1) (trodAll_cons_mk (Below.trod laidOut (by kernel_rfl) (of_decide_eq_true (by kernel_rfl)) h2 bel lt2) trodAll_mk0))), rfl, bel.frame _, fun h => by cases h⟩
theorem blocks_row : Rows.Sha512BlocksSaid :=
  OpenClaim.holds_of_wide 4 Tryd.f4 rfl rfl rfl rfl rfl rfl rfl ⟨rfl, rfl, rfl, rfl, rfl⟩ rfl rfl rfl rfl rfl (by kernel_rfl) Tryd.func4 (by kernel_rfl)
    (of_decide_eq_true (by kernel_rfl)) (by unfold Func.isWrapper; first | (rw [if_pos (by decide +kernel)]; kernel_rfl) | (rw [if_neg (by decide +kernel)]; exact ⟨rfl, rfl⟩))
    (fun os started H enc _ => blocks_lifted os started H enc)
theorem sha512Blocks_holds : Rows.Sha512BlocksCardSaid :=
  Claim7.holds_tied_plain_at .later [] [.data, .data] true _ false
    blocks_row (fun _ h => by cases h) (by kernel_rfl) (fun _ h => by cases h) sha512Blocks_row_tie rfl ⟨rfl, rfl⟩ (by kernel_rfl) rfl
    (fun f fn hf hfn => by
      obtain rfl : f = 4 := Option.some.inj ((show Tryd.prog.funcNamed "rime/rimelaw03.Sha512Blocks" = some 4 by kernel_rfl).symm.trans hf) |>.symm
      obtain rfl : fn = Tryd.f4 := (Option.some.inj (Tryd.func4.symm.trans hfn)).symm
      exact ⟨by kernel_rfl, fun j t ht => by
        rw [Tryd.params4] at ht
        have hm : t ∈ [53, 22, 52] := by simpa using Array.mem_of_getElem? ht
        have hall : ([53, 22, 52].all fun u => !Tryd.prog.wantsStandIn u) = true := by kernel_rfl
        exact (show Tryd.prog.wantsStandIn t = false by simpa using List.all_eq_true.1 hall t hm)⟩)
    (by kernel_rfl)
end Go.Proofs.YtjcgjhncdaplcaaDoor
