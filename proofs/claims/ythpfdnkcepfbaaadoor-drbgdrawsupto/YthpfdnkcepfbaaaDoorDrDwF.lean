/- For every []byte entropy, nonce and personal and every list l of steps (rimelaw11.Step), all together of bulk at most 1048576, rimelaw11.DrbgDraws returns true and its arguments read afterwards as they read before. Its conditions: that bound; tied by the card, that the package variables firstWords and roundWords of sha512 start as the program's text lays them. -/
import Derived.Test.YthpfdnkcepfbaaaDoorDrQ
import Derived.Test.YthpfdnkcepfbaaaDoorDrS
import Derived.Test.YthpfdnkcepfbaaaDoorDrDw
import Derived.Test.YthpfdnkcepfbaaaDoorTie
import Derived.Test.YthpfdnkcepfbaaaDoorCards
import Derived.SevenTiedAt
import Derived.Carry
import Derived.Deep.DeepHandedRow
import Derived.Deep.DeepWitnessRowRef
set_option linter.constructorNameAsVariable false
set_option linter.unusedVariables false
set_option linter.unusedSimpArgs false
set_option linter.unnecessarySimpa false
namespace Go.Proofs.YthpfdnkcepfbaaaDoor
open Go.ChangeShapes Go.WideShapes Go.ChangeAt Go.RowKit Go.Deep

theorem drbgDraws_reads (os : Os) {H : Type} (enc : TypeId × Value → H) : ∃ places, DataW.whole enc Tryd.prog ((World.doorLaid Tryd.prog 400 os).forCall (fun _ _ => 0) ⟨#[], #[.slice none 0 0, .slice none 0 0, .slice none 0 0, .slice none 0 0], []⟩).memory Tryd.f4.params.toList Rows.drbgDrawsSpec.vars false #[Value.slice none 0 0, Value.slice none 0 0, Value.slice none 0 0, Value.slice none 0 0].toList 8 = some ([.nil, .nil, .nil, .nil], [], places) :=
  ⟨[], by kernel_rfl⟩
theorem drbgDraws_laid (os : Os) (args : Array Value) : laidMet Tryd.prog tabs ((World.doorLaid Tryd.prog 400 os).forCall (fun _ _ => 0) ⟨#[], args, []⟩).memory := laidMet_of_run' 8 (by kernel_rfl) (by kernel_rfl)
set_option maxRecDepth 100000 in
theorem drbgDraws_lifted (os : Os) (started : os.Started) (H : Type) (enc : TypeId × Value → H) (F : Stop.Interp) :
    ReturnsInHanded {} Tryd.checked os 4 .any ((Rows.OpenSpec.upto Rows.drbgDrawsSpec).preRow enc Tryd.prog Tryd.f4 Rows.drbgDrawsUptoRow.domain false Rows.drbgDrawsUptoRow.laid) (((Rows.OpenSpec.upto Rows.drbgDrawsSpec).at F).post enc Tryd.prog Tryd.f4 false true false false) := by
  obtain ⟨places, hx⟩ := drbgDraws_reads os enc
  refine returnsInHanded_of_row (C := Tryd.checked) (s := Rows.OpenSpec.upto Rows.drbgDrawsSpec) own started (by kernel_rfl) Tryd.func4
    (witness_row_atRef (enc := enc) (C := Tryd.checked) false (World.doorLaid Tryd.prog 400 os) #[.slice none 0 0, .slice none 0 0, .slice none 0 0, .slice none 0 0] rfl (by kernel_rfl) (by kernel_rfl) (by kernel_rfl)
      (OpenSpec.preRow_of_cond 8 hx (by kernel_rfl) (fun k hk => by cases hk; kernel_rfl) (by kernel_rfl) (drbgDraws_laid os _))) ?_
  intro W base args ds gs before hval0 hW _ hcond _ hL _ _
  have hval : ∀ (j : Nat) t v, Tryd.f4.params[j]? = some t → args[j]? = some v → Value.okWide Tryd.prog W .any base t v := hval0
  have hbX : Rows.uptoSmall H (ds ++ gs) = true := hcond _ rfl
  have hW' := hW
  obtain ⟨p, q, hA0, hV, rfl, hfz, hnd⟩ := hW
  have hA : DataW.TrodAll enc Tryd.prog W 0 (fun _ => true) true Tryd.f4.params.toList args.toList ds p := hA0
  rw [Tryd.params4] at hA hval
  obtain ⟨v0, v1, v2, v3, d0, d1, d2, d3, p0, p1, p2, p3, rfl, rfl, rfl, h0, h1, h2, h3⟩ := trodAll_four hA
  obtain ⟨rfl, rfl⟩ := trodVars_none hV
  have lt0 : ∀ x ∈ p0, x.block < W.heap.size := by obtain ⟨m, hm⟩ := h0; exact DataW.trod_lt m _ _ _ hm
  have lt1 : ∀ x ∈ p1, x.block < W.heap.size := by obtain ⟨m, hm⟩ := h1; exact DataW.trod_lt m _ _ _ hm
  have lt2 : ∀ x ∈ p2, x.block < W.heap.size := by obtain ⟨m, hm⟩ := h2; exact DataW.trod_lt m _ _ _ hm
  have lt3 : ∀ x ∈ p3, x.block < W.heap.size := by obtain ⟨m, hm⟩ := h3; exact DataW.trod_lt m _ _ _ hm
  obtain ⟨n0, f0, hS0, hb0⟩ := (by obtain ⟨m, hm⟩ := h0; obtain ⟨a, l, c, e⟩ := okWide_slice Tryd.underlying22 (hval 0 22 v0 rfl rfl); obtain ⟨n, f, q1, q2⟩ := open_bytes (hval 0 22 v0 rfl rfl) ⟨m, hm⟩; exact ⟨n, f, q1, by rcases q2 with q | ⟨el, sp, q3, q4⟩; omega; rw [q3]; simp only [Rows.uptoBulk]; rw [← q4]; exact Nat.le_trans (len_bulk el) (by omega)⟩ : ∃ n f, Sl W v0 n f ∧ n ≤ Rows.uptoBulk d0)
  obtain ⟨n1, f1, hS1, hb1⟩ := (by obtain ⟨m, hm⟩ := h1; obtain ⟨a, l, c, e⟩ := okWide_slice Tryd.underlying22 (hval 1 22 v1 rfl rfl); obtain ⟨n, f, q1, q2⟩ := open_bytes (hval 1 22 v1 rfl rfl) ⟨m, hm⟩; exact ⟨n, f, q1, by rcases q2 with q | ⟨el, sp, q3, q4⟩; omega; rw [q3]; simp only [Rows.uptoBulk]; rw [← q4]; exact Nat.le_trans (len_bulk el) (by omega)⟩ : ∃ n f, Sl W v1 n f ∧ n ≤ Rows.uptoBulk d1)
  obtain ⟨n2, f2, hS2, hb2⟩ := (by obtain ⟨m, hm⟩ := h2; obtain ⟨a, l, c, e⟩ := okWide_slice Tryd.underlying22 (hval 2 22 v2 rfl rfl); obtain ⟨n, f, q1, q2⟩ := open_bytes (hval 2 22 v2 rfl rfl) ⟨m, hm⟩; exact ⟨n, f, q1, by rcases q2 with q | ⟨el, sp, q3, q4⟩; omega; rw [q3]; simp only [Rows.uptoBulk]; rw [← q4]; exact Nat.le_trans (len_bulk el) (by omega)⟩ : ∃ n f, Sl W v2 n f ∧ n ≤ Rows.uptoBulk d2)
  obtain ⟨K3, wh3, nn3, bv3, bn3, bf3, ev3, en3, ef3, hS3, hK3, hb3⟩ := open_steps (hval 3 55 v3 rfl rfl) h3
  have hbd : (n0 ≤ 1048576 ∧ n1 ≤ 1048576 ∧ n2 ≤ 1048576 ∧ K3 ≤ 900000) ∧ ∀ i, i < K3 → bn3 i ≤ 1048576 ∧ en3 i ≤ 1048576 := by
    have hb1 := of_decide_eq_true hbX
    simp only [List.append_nil, Rows.uptoBulkAll] at hb1
    refine ⟨⟨by omega, by omega, by omega, by omega⟩, fun i hi => ?_⟩
    have q1 : bn3 i ≤ cN bn3 K3 := Nat.le_trans (show bn3 i ≤ cN bn3 (i + 1) from Nat.le_add_left _ _) (cN_mono bn3 hi)
    have q2 : en3 i ≤ cN en3 K3 := Nat.le_trans (show en3 i ≤ cN en3 (i + 1) from Nat.le_add_left _ _) (cN_mono en3 hi)
    exact ⟨by omega, by omega⟩
  clear hA0 hval0
  refine (draws_walk v0 v1 v2 v3 n0 f0 n1 f1 n2 f2 K3 wh3 nn3 bv3 bn3 bf3 ev3 en3 ef3 W (gl_of_laid hL) hS0 hS1 hS2 hS3 hbd.1 hbd.2).mono fun e W' ⟨he, hc⟩ => ?_
  have bel := hc.below
  subst he
  exact ⟨_, rfl, _, _, _, [], _, [], hW', trodAll_mk1 (shut_bool Tryd.underlying4 _), (trodAll_cons_mk (Below.trod laidOut (by kernel_rfl) (of_decide_eq_true (by kernel_rfl)) h0 bel lt0) (trodAll_cons_mk (Below.trod laidOut (by kernel_rfl) (of_decide_eq_true (by kernel_rfl)) h1 bel lt1) (trodAll_cons_mk (Below.trod laidOut (by kernel_rfl) (of_decide_eq_true (by kernel_rfl)) h2 bel lt2) (trodAll_cons_mk (Below.trod laidOut (by kernel_rfl) (of_decide_eq_true (by kernel_rfl)) h3 bel lt3) trodAll_mk0)))), rfl, bel.frame _, fun h => by cases h⟩
theorem drbgDraws_row : Rows.DrbgDrawsUptoSaid :=
  OpenClaim.holds_of_cond 4 Tryd.f4 rfl rfl rfl rfl rfl rfl rfl ⟨rfl, rfl, rfl, rfl, rfl⟩ rfl rfl rfl rfl rfl (by kernel_rfl) Tryd.func4 (by kernel_rfl)
    (of_decide_eq_true (by kernel_rfl)) (by unfold Func.isWrapper; first | (rw [if_pos (by decide +kernel)]; kernel_rfl) | (rw [if_neg (by decide +kernel)]; exact ⟨rfl, rfl⟩))
    (fun os started H enc _ F => by rw [OpenClaim.pre_eq_preRow]; exact drbgDraws_lifted os started H enc F)
theorem drbgDraws_holds : Rows.DrbgDrawsUptoCardSaid :=
  Claim7.holds_tied_plain_at .later [] [.data, .data] true _ false
    drbgDraws_row (fun _ h => by cases h) (by kernel_rfl) (fun _ h => by cases h) drbgDrawsUpto_row_tie rfl ⟨rfl, rfl⟩ (by kernel_rfl) rfl
    (fun f fn hf hfn => by
      obtain rfl : f = 4 := Option.some.inj ((show Tryd.prog.funcNamed "rime/rimelaw11.DrbgDraws" = some 4 by kernel_rfl).symm.trans hf) |>.symm
      obtain rfl : fn = Tryd.f4 := (Option.some.inj (Tryd.func4.symm.trans hfn)).symm
      exact ⟨by kernel_rfl, fun j t ht => by
        rw [Tryd.params4] at ht
        have hm : t ∈ [22, 22, 22, 55] := by simpa using Array.mem_of_getElem? ht
        have hall : ([22, 22, 22, 55].all fun u => !Tryd.prog.wantsStandIn u) = true := by kernel_rfl
        exact (show Tryd.prog.wantsStandIn t = false by simpa using List.all_eq_true.1 hall t hm)⟩)
    (by kernel_rfl)
end Go.Proofs.YthpfdnkcepfbaaaDoor
