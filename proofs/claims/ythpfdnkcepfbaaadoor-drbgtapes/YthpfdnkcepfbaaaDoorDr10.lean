/- drbg: tapes. -/
import Derived.Test.YthpfdnkcepfbaaaDoorDr2
set_option linter.unusedVariables false
set_option linter.unusedSimpArgs false
set_option linter.unnecessarySimpa false
namespace Go.Proofs.YthpfdnkcepfbaaaDoor
open Go.RowKit

/-- Rows of 32 bytes. -/
def rn (r : Nat → Nat → Nat) : Nat → List Value := fun i => yL 32 (r i)
theorem rn_ok (r : Nat → Nat → Nat) (n : Nat) : Rok 32 n (rn r) := fun i _ => ⟨yL_len _ _, yL_one _ _⟩
theorem rnRow : ∃ i, Tryd.prog.info? 69 = some i ∧ i.zero = some (.agg (yC 32 (fun _ => 0))) ∧ i.size = 32 ∧ i.bytes = 32 := by
  have h : (Tryd.prog.info? 69).map (fun i => (i.zero, i.size, i.bytes)) = some (some (.agg (yC 32 (fun _ => 0))), 32, 32) := by kernel_rfl
  cases hi : Tryd.prog.info? 69 with
  | none => rw [hi] at h; simp at h
  | some i => rw [hi] at h; simp at h; exact ⟨i, rfl, h.1, h.2.1, h.2.2⟩
theorem randInfo : (Tryd.prog.info? 69).map (·.size) = some 32 := by kernel_rfl
theorem zeroRand : (Tryd.prog.info? 69).bind (·.zero) = some (.agg (yC 32 (fun _ => 0))) := by kernel_rfl
theorem yL_arr (n : Nat) (f : Nat → Nat) : (yL n f).toArray = yC n f := rfl
theorem builtRand0 : Tryd.prog.built 69 [] = some (yC 32 (fun _ => 0)) := by kernel_rfl
set_option maxHeartbeats 4000000 in
set_option maxRecDepth 100000 in
theorem CloneRn_s (g o n c : Nat) (r : Nat → Nat → Nat) (w : World) (hn : 0 < n) (hn2 : n ≤ 4398046511104) (hR : Rl w 32 (.slice (some ⟨g, o, none⟩) n c) n (rn r)) :
    Calls Tryd.prog 69 #[.slice (some ⟨g, o, none⟩) n c] w fun e w' => ∃ gg cap, e = .returned (.slice (some ⟨gg, 0, none⟩) n cap) ∧ OwnR w' w.heap.size 69 32 (.slice (some ⟨gg, 0, none⟩) n cap) n (rn r) ∧ Chg w w' [] := by
  obtain ⟨ir, hir, hirz, hirs, hirb⟩ := rnRow
  have O0 : OwnR (w.alloc (.cells #[] 69)) w.heap.size 69 32 (.slice (some ⟨w.heap.size, 0, none⟩) 0 0) 0 (rn r) := by
    refine ⟨?_, fun i hi => by omega⟩
    have e : rL 32 0 (rn r) = [] := List.eq_nil_of_length_eq_zero (by rw [rL_len])
    rw [e]
    refine ⟨rfl, Or.inr ⟨w.heap.size, 0, #[], rfl, Nat.le_refl _, Blk.new w #[] 69, Nat.le_refl _, by simp [maxLen], rfl, rfl⟩⟩
  have K0 := (Chg.refl w []).alloc (.cells #[] 69)
  have S0 := hR.chg K0 (Off.nil _)
  have HS : Hid (OwnR (w.alloc (.cells #[] 69)) w.heap.size 69 32 (.slice (some ⟨w.heap.size, 0, none⟩) 0 0) 0 (rn r) ∧ Rl (w.alloc (.cells #[] 69)) 32 (.slice (some ⟨g, o, none⟩) n c) n (rn r) ∧ 0 < n ∧ n ≤ 4398046511104) := ⟨O0, S0, hn, hn2⟩
  have hq : ∀ W, (binOp .eql 78 (.slice (some ⟨g, o, none⟩) n c) (.slice none 0 0)).run Tryd.prog W = .ok (.bool false) W := fun W => Lib.run_eql_slice_some_nil W _ _ _ Tryd.underlying78
  clear O0 S0 hR hn hn2
  go_enter Tryd.func69, Tryd.ntmps69
  go_wp2_with (first
    | (with_reducible refine wpList_append_r ?_ (.tmp 5) (.tmp 6) 78 ?_ 69 ir (.agg (yC 32 (fun _ => 0))) 32 32 Tryd.underlying78 hir hirz hirs hirb ?_ ?_ w.heap.size (.slice (some ⟨w.heap.size, 0, none⟩) 0 0) (.slice (some ⟨g, o, none⟩) n c) 0 n (rn r) (rn r) ?_ ?_ HS.out.1 HS.out.2.1 HS.out.2.2.1 ?_ ?_ ?_ ?_
       · rfl
       · rfl
       · rfl
       · omega
       · rfl
       · rfl
       · have := HS.out; omega
       · have := HS.out; omega
       · simp
       intro gg cap w1 O1 k1 hq1 hq2))
  have O2 : OwnR w1 w.heap.size 69 32 (.slice (some ⟨gg, 0, none⟩) n cap) n (rn r) := by
    have e : catR (rn r) 0 (rn r) = rn r := by funext i; unfold catR; rw [if_neg (by omega), Nat.sub_zero]
    rw [e] at O1
    simpa using O1
  clear O1
  go_wp2_with fail
  go_ret
  exact ⟨gg, cap, by simp, O2, K0.trans k1 (by simp [ob, Value.ownBlock])⟩
theorem builtTape (p : Option Addr) (n c : Nat) : Tryd.prog.built 147 [(0, .slice p n c), (1, .bool true)] = some #[.slice p n c, .bool true] := by kernel_rfl
set_option maxHeartbeats 4000000 in
set_option maxRecDepth 100000 in
theorem NewTape_s (g o n c : Nat) (r : Nat → Nat → Nat) (w : World) (hn : 0 < n) (hn2 : n ≤ 4398046511104) (hR : Rl w 32 (.slice (some ⟨g, o, none⟩) n c) n (rn r)) :
    Calls Tryd.prog 30 #[.slice (some ⟨g, o, none⟩) n c] w fun e w' => ∃ tb gg cap, e = .returned (.pointer (some ⟨tb, 0, none⟩)) ∧ w.heap.size ≤ tb ∧ w.heap.size ≤ gg ∧ Blk w' tb #[.slice (some ⟨gg, 0, none⟩) n cap, .bool true] 147 ∧ Rl w' 32 (.slice (some ⟨gg, 0, none⟩) n cap) n (rn r) ∧ Chg w w' [] := by
  have HC : Hid (∀ w', w' = w → Calls Tryd.prog 69 #[.slice (some ⟨g, o, none⟩) n c] w' fun e w'' => ∃ gg cap, e = .returned (.slice (some ⟨gg, 0, none⟩) n cap) ∧ OwnR w'' w'.heap.size 69 32 (.slice (some ⟨gg, 0, none⟩) n cap) n (rn r) ∧ Chg w' w'' []) := fun w' e => by subst e; exact CloneRn_s g o n c r w' hn hn2 hR
  clear hn hn2 hR
  go_enter Tryd.func30, Tryd.ntmps30
  go_wp2_with fail
  refine (HC.out w rfl).mono ?_
  rintro e w1 ⟨gg, cap, rfl, O1, k1⟩
  have HB : Hid (Tryd.prog.built 147 [(0, .slice (some ⟨gg, 0, none⟩) n cap), (1, .bool true)] = some #[.slice (some ⟨gg, 0, none⟩) n cap, .bool true]) := builtTape _ _ _
  have HGG : Hid (w.heap.size ≤ gg) := (O1.1.lt gg rfl).1
  have R1 := O1.rl
  clear O1
  go_wp2_with (first
    | (refine wpList_build_c rfl 147 _ rfl #[.slice (some ⟨gg, 0, none⟩) n cap, .bool true] (by go_simp; exact HB.out) ?_)
    | (with_reducible refine box_w rfl 147 _ rfl #[.slice (some ⟨gg, 0, none⟩) n cap, .bool true] rfl ?_; intro tb w2 htb BT k2))
  go_ret
  exact ⟨tb, gg, cap, rfl, Nat.le_trans k1.size htb, HGG.out, BT, R1.chg k2 (Off.nil _), k1.trans1 k2⟩
set_option maxHeartbeats 4000000 in
set_option maxRecDepth 100000 in
theorem TLeft_s (tb n c : Nat) (p : Option Addr) (b : Bool) (w : World) (B : Blk w tb #[.slice p n c, .bool b] 147) : Calls Tryd.prog 34 #[.pointer (some ⟨tb, 0, none⟩)] w fun e w' => e = .returned (.int .i64 (n : Int)) ∧ w' = w := by
  have c0 := B.cell 0
  simp only [List.getElem?_toArray, List.getElem?_cons_zero] at c0
  clear B
  go_enter Tryd.func34, Tryd.ntmps34
  go_wp2_with fail
  go_ret
  exact ⟨rfl, rfl⟩
theorem tp0 {w : World} {tb : Nat} {v : Value} {b : Bool} {T : TypeId} (B : Blk w tb #[v, .bool b] T) : w.cell? ⟨tb, 0, none⟩ = some v := by rw [B.cell]; rfl
theorem tp1 {w : World} {tb : Nat} {v : Value} {b : Bool} {T : TypeId} (B : Blk w tb #[v, .bool b] T) : w.cell? ⟨tb, 1, none⟩ = some (.bool b) := by rw [B.cell]; rfl
theorem tpS {w : World} {tb : Nat} {v : Value} {b : Bool} {T : TypeId} (B : Blk w tb #[v, .bool b] T) (u : Value) : Blk (w.setCell ⟨tb, 0, none⟩ u) tb #[u, .bool b] T := B.setCell 0 u
set_option maxHeartbeats 8000000 in
set_option maxRecDepth 100000 in
theorem TRandom_ok (tb g o n c : Nat) (r : Nat → Nat → Nat) (w : World) (hn : 0 < n) (B : Blk w tb #[.slice (some ⟨g, o, none⟩) n c, .bool true] 147) (hR : Rl w 32 (.slice (some ⟨g, o, none⟩) n c) n (rn r)) :
    Calls Tryd.prog 31 #[.pointer (some ⟨tb, 0, none⟩)] w fun e w' => ∃ o', e = .returned (.tuple #[.agg (yC 32 (r 0)), .int .i64 0]) ∧ Blk w' tb #[.slice (some ⟨g, o', none⟩) (n - 1) (c - 1), .bool true] 147 ∧ (0 < n - 1 → o' = o + 32) ∧ Chg w w' [tb] := by
  have hnc : n ≤ c ∧ c ≤ 9223372036854775807 ∧ g < w.heap.size := by
    rcases hR.2 with ⟨h, _⟩ | ⟨g', o', c', e, h1, h2, h3, _⟩
    · omega
    · simp only [Value.slice.injEq, Option.some.injEq, Addr.mk.injEq] at e
      obtain ⟨⟨rfl, _⟩, _, rfl⟩ := e
      exact ⟨h1, h2, h3⟩
  have hr0 : w.rangeAt g o (yL 32 (r 0)) := by
    rcases hR.2 with ⟨h, _⟩ | ⟨g', o', c', e, h1, h2, h3, h4⟩
    · omega
    · simp only [Value.slice.injEq, Option.some.injEq, Addr.mk.injEq] at e
      obtain ⟨⟨rfl, rfl, _⟩, _, rfl⟩ := e
      have := h4 0 hn
      rwa [Nat.zero_mul, Nat.add_zero] at this
  have hI : ¬ (n : Int) = 0 := by omega
  have hIb : ((n : Int) == 0) = false := by simp; omega
  have hI1 : (0 : Int) < (n : Int) := by omega
  have hI2 : (1 : Int) ≤ (n : Int) := by omega
  have HR : Hid (w.rangeAt g o (yL 32 (r 0)) ∧ g < w.heap.size) := ⟨hr0, hnc.2.2⟩
  have HT : Hid (tb < w.heap.size) := B.lt
  have HB : Hid (Blk w tb #[.slice (some ⟨g, o, none⟩) n c, .bool true] 147) := B
  have hnc1 : n ≤ c := hnc.1
  have hnc2 : c ≤ 9223372036854775807 := hnc.2.1
  clear hR hr0 hnc B hn
  go_enter Tryd.func31, Tryd.ntmps31
  go_upto_region 6 with (first
    | (have _h := BF; refine store_w BF rfl 69 _ _ (yC 32 (r 0)) rfl rfl rfl (by rw [yC_size]; exact randInfo) (by rw [yC_size, yC_size]) (yC_one 32 _) ?_; intro w3 BF3 k3)
    | (have _h := d0; with_reducible refine alloc_w rfl 69 rfl (.agg (yC 32 (fun _ => 0))) zeroRand (yC 32 (fun _ => 0)) rfl ?_; intro fb w2 hfb BF k2)
    | (have _h := d0; refine wpList_load_mid rfl 69 _ rfl g o rfl (yL 32 (r 0)) _ (rangeAt_chg HR.out.1 HR.out.2 k1 (by simp)) Tryd.underlying69 rfl (by rw [yL_len]; exact randInfo) ?_; rw [yL_arr])
    | (with_reducible refine alloc_w rfl 69 rfl (.agg (yC 32 (fun _ => 0))) zeroRand (yC 32 (fun _ => 0)) rfl ?_; intro rb w1 hrb BR k1; have d0 := tp0 (HB.out.chg k1 (by simp)); have d1 := tp1 (HB.out.chg k1 (by simp))))
  have BT3 := ((HB.out.chg k1 (by simp)).chg k2 (by simp)).chg k3 (by have := HT.out; have := k1.size; simp; omega)
  have BR3 := (BR.chg k2 (by simp)).chg k3 (by have := BR.lt; simp; omega)
  have K3 : Chg w w3 [] := (k1.trans1 k2).new k3 (Nat.le_trans k1.size hfb)
  have HN : Hid (¬ rb ∈ [tb] ∧ ¬ fb ∈ [tb] ∧ ¬ tb ∈ [rb] ∧ w.heap.size ≤ rb) := ⟨by have := HT.out; simp; omega, by have := HT.out; have := k1.size; simp; omega, by have := HT.out; simp; omega, hrb⟩
  have e0 := tp0 BT3
  have f0 := BT3.frozen 0
  clear k1 k2 k3 hrb hfb BR BF d0 d1 HB HR
  have HFT : Hid (fb ≠ tb) := by show fb ≠ tb; have := HN.out.2.1; simpa using this
  have HRT : Hid (rb ≠ tb) := by show rb ≠ tb; have := HN.out.1; simpa using this
  simp only [Act.put, List.setIfInBounds_toArray, List.set_cons_zero, List.set_cons_succ]
  by_cases hc1 : c = 1
  · obtain rfl : n = 1 := by omega
    subst hc1
    have BT4 := tpS BT3 (.slice (some ⟨g, o, none⟩) 0 0)
    have BF4 := BF3.setOther HFT.out 0 (.slice (some ⟨g, o, none⟩) 0 0)
    have BR4 := BR3.setOther HRT.out 0 (.slice (some ⟨g, o, none⟩) 0 0)
    have K4 := (K3.wide (l := [tb])).setIn (k := tb) (by simp) 0 (.slice (some ⟨g, o, none⟩) 0 0)
    clear BF3 BR3 BT3 K3 hI hIb hI1 hI2 hnc1 hnc2
    go_wp2_with (first
      | (refine store_w BR4 rfl 69 _ _ (yC 32 (r 0)) rfl rfl rfl (by rw [yC_size]; exact randInfo) (by rw [yC_size, yC_size]) (yC_one 32 _) ?_; intro w5 BR5 k5)
      | (with_reducible refine load_b BF4 69 (.tmp 4) Tryd.underlying69 ?_ ?_ ?_ ?_ ?_ ?_
         · rfl
         · rfl
         · rfl
         · rfl
         · (rw [yC_size]; exact randInfo)))
    refine bodyPost_ret (results_cell_tmp Tryd.results31 _ _ rb 69 (yC 32 (r 0)) _ (.int .i64 0) rfl rfl BR5 Tryd.underlying69 rfl (by rw [yC_size]; exact randInfo)) rfl ?_
    exact ⟨o, rfl, BT4.chg k5 HN.out.2.2.1, fun h => by omega, K4.trans k5 (fun i hi => by simp at hi; subst hi; exact Or.inr HN.out.2.2.2)⟩
  · have hc2 : ¬ (c : Int) = 1 := by omega
    have hc3 : ¬ (1 : Int) = (c : Int) := by omega
    have hc4 : ¬ 1 = c := by omega
    have BT4 := tpS BT3 (.slice (some ⟨g, o + 32, none⟩) (n - 1) (c - 1))
    have BF4 := BF3.setOther HFT.out 0 (.slice (some ⟨g, o + 32, none⟩) (n - 1) (c - 1))
    have BR4 := BR3.setOther HRT.out 0 (.slice (some ⟨g, o + 32, none⟩) (n - 1) (c - 1))
    have K4 := (K3.wide (l := [tb])).setIn (k := tb) (by simp) 0 (.slice (some ⟨g, o + 32, none⟩) (n - 1) (c - 1))
    clear BF3 BR3 BT3 K3
    go_wp2_with (first
      | (refine store_w BR4 rfl 69 _ _ (yC 32 (r 0)) rfl rfl rfl (by rw [yC_size]; exact randInfo) (by rw [yC_size, yC_size]) (yC_one 32 _) ?_; intro w5 BR5 k5)
      | (with_reducible refine load_b BF4 69 (.tmp 4) Tryd.underlying69 ?_ ?_ ?_ ?_ ?_ ?_
         · rfl
         · rfl
         · rfl
         · rfl
         · (rw [yC_size]; exact randInfo)))
    refine bodyPost_ret (results_cell_tmp Tryd.results31 _ _ rb 69 (yC 32 (r 0)) _ (.int .i64 0) rfl rfl BR5 Tryd.underlying69 rfl (by rw [yC_size]; exact randInfo)) rfl ?_
    exact ⟨o + 32, rfl, BT4.chg k5 HN.out.2.2.1, fun _ => rfl, K4.trans k5 (fun i hi => by simp at hi; subst hi; exact Or.inr HN.out.2.2.2)⟩
end Go.Proofs.YthpfdnkcepfbaaaDoor
