/- Joined: SwBo, SeO, SeTx, SeBoxesF. -/
import Derived.Test.YtachilkhbfpahaaMgX
import Derived.Test.YtachilkhbfpahaaSeCt
import Derived.Test.YtachilkhbfpahaaRows
import Derived.ProofKit
import Derived.OpenShut
import Derived.Stop.Joined
import Derived.Deep.Slices
import Derived.Deep.Strs
import Derived.SizedLaws
import Derived.Below
/- SealBoxes: the walk. -/
set_option linter.unusedVariables false
set_option linter.unusedSimpArgs false
set_option linter.unnecessarySimpa false
namespace Go.Proofs.Ytachilkhbfpahaa
open Go.RowKit

/-- A Given stands where a block of a kind that it does not use is turned. -/
theorem Gv.chgT {w w' : World} {gb base : Nat} {G : Nat → Value} {p : Nat} {TG TE T : TypeId} {s K : Nat} {N : Nat → Nat} {F : Nat → Nat → List Value} {z : Nat} {C : Array Value} {U : TypeId} (h : Gv w gb base G p TG TE T s K N F) (hz : Blk w z C U) (h1 : U ≠ TG) (h2 : U ≠ TE) (h3 : U ≠ T) (hc : Chg w w' [z]) : Gv w' gb base G p TG TE T s K N F := by
  refine ⟨h.gb.chg hc (fun hm => hz.ne h.gb h1 (by simpa using hm : gb = z).symm), ?_⟩
  obtain ⟨vs, us, l1, l2, hd, hj⟩ := h.lists
  refine ⟨vs, us, ownsRow_chg l1 hc (fun k hk hm => ?_), ownsRow_chg l2 hc (fun k hk hm => ?_), hd, fun j hjk => ?_⟩
  · obtain ⟨C', hC'⟩ := ownsRow_blk l1 hk
    exact hz.ne hC' h2 (by simpa using hm : k = z).symm
  · obtain ⟨C', hC'⟩ := ownsRow_blk l2 hk
    exact hz.ne hC' h2 (by simpa using hm : k = z).symm
  · obtain ⟨o, x, q1, q2, q3, q4, q5⟩ := hj j hjk
    exact ⟨o, x, q1, q2, q3, q4.chg hc (fun hm => hz.ne q4 h3 (by simpa using hm : o = z).symm), q5.chg hc (fun k hk hm => by obtain ⟨C', hC'⟩ := ownR_blk q5 hk; exact hz.ne hC' h3 (by simpa using hm : k = z).symm)⟩
theorem GS.chgT {w wr wr' : World} {gb K z : Nat} {C : Array Value} {U : TypeId} (h : GS w wr gb K) (hz : Blk wr z C U) (h1 : U ≠ 44) (h2 : U ≠ 27) (h3 : U ≠ 5) (hw : w.heap.size ≤ z) (c : Chg wr wr' [z]) : GS w wr' gb K := by
  obtain ⟨G, N, F, g, q1, q2, q3⟩ := h.gv
  exact ⟨⟨G, N, F, g.chgT hz h1 h2 h3 c, q1, q2, q3⟩, h.wg, h.cc.new c hw⟩
/-- A Box's answer, of both sides. -/
def bxLn (nx n1 : Nat) : Nat := if nx = 18446744073709551615 then 0 else n1 + 28
def bxEr (nx : Nat) : Int := if nx = 18446744073709551615 then 122 else 0
def bxNx (nx : Nat) : Nat := if nx = 18446744073709551615 then nx else nx + 1
theorem bxNx_lt {nx : Nat} (h : nx < 18446744073709551616) : bxNx nx < 18446744073709551616 := by unfold bxNx; split <;> omega
theorem bxEr_0 {nx : Nat} : bxEr nx = 0 ↔ bxNx nx = nx + 1 := by
  unfold bxEr bxNx
  split
  · constructor <;> intro h <;> omega
  · simp
def BoA (w : World) (y : Nat) (k : Nat → Nat) (nx N : Nat) (E : Int) (X : Nat → Nat) (e : Ending) (w' : World) : Prop := ∃ sv, e = .returned (.tuple #[sv, .int .i64 E]) ∧ Sz w' sv N X ∧ Blk w' y (slC k nx true) 134 ∧ Chg w w' [y]
theorem Box_a (y nx : Nat) (k : Nat → Nat) (hk : ∀ i, i < 32 → k i < 256) (hnx : nx < 18446744073709551616) (v0 : Value) (n0 : Nat) (f0 : Nat → Nat) (v1 : Value) (n1 : Nat) (f1 : Nat → Nat) (w : World)
    (hb : Blk w y (slC k nx true) 134) (hv0 : Sz w v0 n0 f0) (hz0 : Oz v0 [y]) (hv1 : Sz w v1 n1 f1) (hz1 : Oz v1 [y]) (hm : n1 ≤ 274877906880) (hm2 : n1 + 28 ≤ 140737488355456) :
    Calls Try.prog 28 #[.pointer (some ⟨y, 0, none⟩), v0, v1] w fun e w' => BoA w y k (bxNx nx) (bxLn nx n1) (bxEr nx) (boxB k nx n0 f0 n1 f1) e w' := by
  unfold bxNx bxLn bxEr
  by_cases h : nx = 18446744073709551615
  · subst h
    rw [if_pos rfl, if_pos rfl, if_pos rfl]
    refine (Box_end y k v0 v1 w hb).mono ?_
    rintro e w' ⟨rfl, rfl⟩
    exact ⟨_, rfl, Sz.nil0 _ _, hb, Chg.refl _ _⟩
  · rw [if_neg h, if_neg h, if_neg h]
    have hbd := hv1.bd
    refine (Box_s y nx k hk (by omega) v0 n0 f0 v1 n1 f1 w hb hv0 hz0 hv1 hz1 hm2).mono ?_
    rintro e w' ⟨g, rfl, hg, B, B2, k1⟩
    exact ⟨_, rfl, B.szn (fun i hi => box_lt k nx n0 f0 n1 f1 hbd i hi) (by omega), B2, k1⟩
theorem Box_ra (nx : Nat) (k : Nat → Nat) (hk : ∀ i, i < 32 → k i < 256) (hnx : nx < 18446744073709551616) (v0 : Value) (n0 : Nat) (f0 : Nat → Nat) (v1 : Value) (n1 : Nat) (f1 : Nat → Nat) (w : World)
    (hv0 : Sz w v0 n0 f0) (hv1 : Sz w v1 n1 f1) (h0 : n0 ≤ 1099511627776) (h1 : n1 ≤ 274877906880) :
    Calls Try.prog 29 #[.agg (yC 32 k), .int .u64 (nx : Int), v0, v1] w fun e w' => StA w (bxLn nx n1) (bxEr nx) (boxB k nx n0 f0 n1 f1) e w' := by
  unfold bxLn bxEr
  by_cases h : nx = 18446744073709551615
  · subst h
    rw [if_pos rfl, if_pos rfl]
    refine (Box_rend k v0 v1 w).mono ?_
    rintro e w' ⟨rfl, k1⟩
    exact ⟨_, rfl, Sz.nil0 _ _, k1⟩
  · rw [if_neg h, if_neg h]
    refine (Box_r k nx hk (by omega) v0 n0 f0 v1 n1 f1 w hv0 hv1 h0 h1 _ rfl).mono ?_
    rintro e w' ⟨v', rfl, O, k1⟩
    exact ⟨_, rfl, O.sz, k1⟩

set_option maxHeartbeats 16000000 in
set_option maxRecDepth 100000 in
theorem boxes_walk (k : Nat → Nat) (hk : ∀ i, i < 32 → k i < 256) (nx : Nat) (hnx : nx < 18446744073709551616) (v2 : Value) (n0 : Nat) (f0 : Nat → Nat) (v3 : Value) (K : Nat) (tv : Nat → Value) (tn : Nat → Nat) (tf : Nat → Nat → Nat) (w : World)
    (hv2 : Sz w v2 n0 f0) (h0 : n0 ≤ 1048576) (hv3 : Tx w v3 K tv tn tf) (hKK : 2 * K ≤ 3000000) (htn : ∀ i, i < K → tn i ≤ 1048576) :
    Calls Try.prog 8 #[.agg (yC 32 k), .int .u64 (nx : Int), v2, v3] w fun e w' => e = .returned (.bool true) ∧ Chg w w' [] := by
  obtain ⟨p, c, rfl, hK, hcell, htx⟩ := hv3
  have HK : Hid ((∀ i, i < 32 → k i < 256) ∧ nx < 18446744073709551616) := ⟨hk, hnx⟩
  have HV2 : Hid (Sz w v2 n0 f0 ∧ n0 ≤ 1048576) := ⟨hv2, h0⟩
  have HT : Hid ((2 * K ≤ 3000000 ∧ (0 < K → ∃ g o, p = some ⟨g, o, none⟩ ∧ g < w.heap.size ∧ ∀ i, i < K → w.cell? ⟨g, o + i, none⟩ = some (tv i))) ∧ ∀ i, i < K → Sz w (tv i) (tn i) (tf i) ∧ tn i ≤ 1048576) := ⟨⟨hKK, hcell⟩, fun i hi => ⟨(htx i hi).1, htn i hi⟩⟩
  clear hk hnx hv2 hK hcell htx h0 hKK htn
  go_enter Try.func8, Try.ntmps8
  go_wp2_with (first
    | (with_reducible refine load_b BK 23 (.tmp 4) Try.underlying23 ?_ ?_ ?_ ?_ ?_ ?_
       · rfl
       · rfl
       · rfl
       · rfl
       · (rw [yC_size]; exact keyInfo))
    | (refine box_w rfl 23 _ rfl (yC 32 k) rfl ?_; intro kb w1 hkb BK k1))
  refine (New_s k nx w1).mono ?_
  rintro e w2 ⟨y, rfl, hy, BY, k2⟩
  have K2 : Chg w w2 [] := k1.trans1 k2
  have HY : Hid (w.heap.size ≤ y ∧ ¬ kb = y) := ⟨by have := k1.size; omega, by have := BK.lt; omega⟩
  have BK2 := BK.chg k2 (by simp)
  clear k1 k2 BK hy hkb
  go_wp2_with fail
  refine (Next_s y nx k true w2 BY).mono ?_
  rintro e w3 ⟨rfl, rfl⟩
  go_wp2_with (refine alloc_w rfl 44 rfl (.agg (gvC gNil)) zeroGiven (gvC gNil) rfl ?_; intro gb w3 hgb BG k3)
  have G3 : GS w w3 gb 0 := GS.begin BG (by have := K2.size; omega) (K2.trans1 k3)
  have BK3 := BK2.chg k3 (by simp)
  have BY3 := BY.chg k3 (by simp)
  clear BK2 BY BG k3 hgb K2
  go_loopw [1, 11] (fun b t wr => ∃ i : Nat, i ≤ K ∧ t = .int .i64 (i : Int) ∧ (∃ a : Nat, b = .int .u64 (a : Int) ∧ a < 18446744073709551616 ∧ Blk wr y (slC k a true) 134) ∧ Blk wr kb (yC 32 k) 23 ∧ GS w wr gb (2 * i)) (fun _ t _ => ((K : Int) - intOf t).toNat)
  case atStart => exact ⟨0, by omega, rfl, ⟨nx, rfl, HK.out.2, BY3⟩, BK3, G3⟩
  case round =>
    clear BY3 BK3 G3
    obtain ⟨i, hi, rfl, ⟨at', rfl, hat', BY⟩, BK, G0⟩ := hrel
    have HAT : Hid (at' < 18446744073709551616) := hat'
    clear hat'
    by_cases h8 : i < K
    · have hI : (i : Int) < (K : Int) := by omega
      have e1 : IntKind.i64.wrap ((i : Int) + 1) = (i : Int) + 1 := by have := HT.out.1.1; rw [IntKind.wrap_i64]; omega
      obtain ⟨g, o, rfl, hg, hc⟩ := HT.out.1.2 (by omega)
      have HC : Hid (g < w.heap.size ∧ w.cell? ⟨g, o + i, none⟩ = some (tv i)) := ⟨hg, hc i h8⟩
      have HS : Hid (Sz w (tv i) (tn i) (tf i) ∧ tn i ≤ 1048576) := HT.out.2 i h8
      obtain ⟨tvi, htvi⟩ : ∃ z, tv i = z := ⟨_, rfl⟩
      obtain ⟨n1, hn1⟩ : ∃ z, tn i = z := ⟨_, rfl⟩
      obtain ⟨f1, hf1⟩ : ∃ z, tf i = z := ⟨_, rfl⟩
      rw [htvi] at HC HS
      rw [hn1, hf1] at HS
      clear htvi hn1 hf1 hg hc
      obtain ⟨p1, cc1, e1', _⟩ := id HS.out.1
      subst e1'
      have HI : Hid (i < K ∧ 2 * i + 2 ≤ 3000000) := ⟨h8, by have := HT.out.1.1; omega⟩
      have HB1 : Hid (∀ w' a b, Blk w' y (slC k at' true) 134 → Sz w' a n0 f0 → Oz a [y] → Sz w' b n1 f1 → Oz b [y] → Calls Try.prog 28 #[.pointer (some ⟨y, 0, none⟩), a, b] w' fun e w'' => BoA w' y k (bxNx at') (bxLn at' n1) (bxEr at') (boxB k at' n0 f0 n1 f1) e w'') := fun w' a b h x1 x2 x3 x4 => Box_a y at' k HK.out.1 HAT.out a n0 f0 b n1 f1 w' h x1 x2 x3 x4 (by have := HS.out.2; omega) (by have := HS.out.2; omega)
      have HB2 : Hid (∀ w', Sz w' v2 n0 f0 → Sz w' (.slice p1 n1 cc1) n1 f1 → Calls Try.prog 29 #[.agg (yC 32 k), .int .u64 (at' : Int), v2, (.slice p1 n1 cc1)] w' fun e w'' => StA w' (bxLn at' n1) (bxEr at') (boxB k at' n0 f0 n1 f1) e w'') := fun w' x y => Box_ra at' k HK.out.1 HAT.out v2 n0 f0 (.slice p1 n1 cc1) n1 f1 w' x y (by have := HV2.out.2; omega) (by have := HS.out.2; omega)
      have HNX : Hid ((bxEr at' = 0 ↔ bxNx at' = at' + 1) ∧ (¬ bxEr at' = 0 → bxNx at' = at') ∧ bxNx at' < 18446744073709551616) := ⟨bxEr_0, fun h => by unfold bxEr bxNx at *; split at h <;> simp_all, bxNx_lt HAT.out⟩
      obtain ⟨L, hL⟩ : ∃ z, bxLn at' n1 = z := ⟨_, rfl⟩
      obtain ⟨E, hE⟩ : ∃ z, bxEr at' = z := ⟨_, rfl⟩
      obtain ⟨X, hX⟩ : ∃ z, boxB k at' n0 f0 n1 f1 = z := ⟨_, rfl⟩
      obtain ⟨a1, ha1⟩ : ∃ z, bxNx at' = z := ⟨_, rfl⟩
      rw [hL, hE, hX] at HB1 HB2
      rw [ha1] at HB1
      rw [hE, ha1] at HNX
      have c1 : wr.cell? ⟨g, o + i, none⟩ = some (.slice p1 n1 cc1) := by rw [G0.cc.cell g _ HC.out.1 (by simp)]; exact HC.out.2
      clear h8 hi hL hE hX ha1
      go_wp2_with fail
      refine lt_begin (fun w' => w'.cell? ⟨g, o + i, none⟩ = some (.slice p1 n1 cc1)) (fun _ => false) (by kernel_rfl) ?_
      have hHeld : wr.drew.cell? ⟨g, o + i, none⟩ = some (.slice p1 n1 cc1) := by simpa using c1
      replace G0 : GS w wr.drew gb (2 * i) := G0.chg (Chg.refl wr []).drew
      replace BK := BK.drew
      replace BY := BY.drew
      obtain ⟨w4, hz⟩ : ∃ z, z = wr.drew := ⟨_, rfl⟩
      rw [← hz] at hHeld G0 BK BY ⊢
      clear hz c1
      refine lt_val (v := ?_) 0 (some 34) rfl (by kernel_rfl) (by kernel_rfl) (by kernel_rfl) (fun _ _ _ h => h) rfl rfl (fun w => ?_) ?_
      rotate_left
      · (go_simp; try with_reducible rfl)
      try simp only [Act.put, List.setIfInBounds_toArray, List.set_cons_zero, List.set_cons_succ]
      refine lt_val (v := ?_) 1 (some 35) rfl (by kernel_rfl) (by kernel_rfl) (by kernel_rfl) (fun _ _ _ h => h) rfl rfl (fun w => ?_) ?_
      rotate_left
      · (go_simp; try with_reducible rfl)
      try simp only [Act.put, List.setIfInBounds_toArray, List.set_cons_zero, List.set_cons_succ]
      refine lt_val (v := ?_) 3 (some 37) rfl (by kernel_rfl) (by kernel_rfl) (by kernel_rfl) (fun _ _ _ h => h) rfl rfl (fun w => ?_) ?_
      rotate_left
      · (go_simp; try with_reducible rfl)
      try simp only [Act.put, List.setIfInBounds_toArray, List.set_cons_zero, List.set_cons_succ]
      refine lt_val (v := ?_) 4 (some 38) rfl (by kernel_rfl) (by kernel_rfl) (by kernel_rfl) (fun _ _ _ h => h) rfl rfl (fun w => ?_) ?_
      rotate_left
      · (go_simp; try with_reducible rfl)
      try simp only [Act.put, List.setIfInBounds_toArray, List.set_cons_zero, List.set_cons_succ]
      refine lt_val (v := (.pointer (some ⟨g, o + i, none⟩))) 5 (some 39) rfl (by kernel_rfl) (by kernel_rfl) (by kernel_rfl) (fun _ _ _ h => h) rfl rfl (fun w => ?_) ?_
      · (go_simp; try with_reducible rfl)
      try simp only [Act.put, List.setIfInBounds_toArray, List.set_cons_zero, List.set_cons_succ]
      refine lt_read (v := (.slice p1 n1 cc1)) 6 (some 40) rfl (by kernel_rfl) (by kernel_rfl) (by kernel_rfl) (by kernel_rfl) (fun _ _ _ h => h) rfl rfl (fun w hSw => ?_) hHeld ?_
      · have hSw2 : w.cell? ⟨g, o + i, none⟩ = some (.slice p1 n1 cc1) := hSw; (go_simp; try with_reducible rfl)
      try simp only [Act.put, List.setIfInBounds_toArray, List.set_cons_zero, List.set_cons_succ]
      refine lt_one 2 rfl (by kernel_rfl) rfl (fun K hK => ?_)
      go_simp
      refine (G0.bytes (by have := HI.out; omega) (by have := HV2.out.2; omega) (HV2.out.1.kept G0.cc)).mono ?_
      rintro e w5 ⟨o5, rfl, ho5, G5, ⟨C5, B5⟩, S5, Q5⟩
      go_wp2_with fail
      refine hK.out _ _ (fun _ _ => by rw [G5.cc.cell g _ HC.out.1 (by simp)]; exact HC.out.2) ?_
      replace hHeld : w5.cell? ⟨g, o + i, none⟩ = some (.slice p1 n1 cc1) := by rw [G5.cc.cell g _ HC.out.1 (by simp)]; exact HC.out.2
      have HO5 : Hid (¬ o5 = y) := by have := BY.lt; show ¬ o5 = y; omega
      have BK5 := Q5.blk BK (by decide) (by decide)
      have BY5 := Q5.blk BY (by decide) (by decide)
      clear G0 Q5 ho5 BK BY
      clear hK K
      try simp only [Act.put, List.setIfInBounds_toArray, List.set_cons_zero, List.set_cons_succ]
      refine lt_one 7 rfl (by kernel_rfl) rfl (fun K hK => ?_)
      go_simp
      refine (G5.bytes (by have := HI.out; omega) (by have := HS.out.2; omega) (HS.out.1.kept G5.cc)).mono ?_
      rintro e w6 ⟨o6, rfl, ho6, G6, _, S6, Q6⟩
      go_wp2_with fail
      refine hK.out _ _ (fun _ _ => by rw [G6.cc.cell g _ HC.out.1 (by simp)]; exact HC.out.2) ?_
      clear hHeld
      have HO6 : Hid (¬ o6 = y) := by have := BY5.lt; show ¬ o6 = y; omega
      have S5b := Q6.sz B5 S5
      have BK6 := Q6.blk BK5 (by decide) (by decide)
      have BY6 := Q6.blk BY5 (by decide) (by decide)
      clear G5 Q6 ho6 B5 S5 BK5 BY5
      clear hK K
      try simp only [Act.put, List.setIfInBounds_toArray, List.set_cons_zero, List.set_cons_succ]
      refine lt_one 8 rfl (by kernel_rfl) rfl (fun K hK => ?_)
      go_simp
      refine (HB1.out w6 _ _ BY6 S5b (fun g' o' n' c' _ e hm => by have e2 : g' = y := (by simpa using hm); subst e2; simp only [Value.slice.injEq, Option.some.injEq, Addr.mk.injEq] at e; exact HO5.out e.1.1) S6 (fun g' o' n' c' _ e hm => by have e2 : g' = y := (by simpa using hm); subst e2; simp only [Value.slice.injEq, Option.some.injEq, Addr.mk.injEq] at e; exact HO6.out e.1.1)).mono ?_
      rintro e w7 ⟨sx, rfl, SX, BY7, k7⟩
      have G7 := G6.chgT BY6 (by decide) (by decide) (by decide) HY.out.1 k7
      go_wp2_with fail
      refine hK.out _ _ (fun _ _ => by rw [G7.cc.cell g _ HC.out.1 (by simp)]; exact HC.out.2) ?_
      have BK7 := BK6.chg k7 (by have := HY.out; simp; omega)
      clear G6 S5b S6 BK6 BY6 k7
      clear hK K
      try simp only [Act.put, List.setIfInBounds_toArray, List.set_cons_zero, List.set_cons_succ]
      refine lt_val (v := ?_) 9 (some 33) rfl (by kernel_rfl) (by kernel_rfl) (by kernel_rfl) (fun _ _ _ h => h) rfl rfl (fun w => ?_) ?_
      rotate_left
      · (go_simp; try with_reducible rfl)
      try simp only [Act.put, List.setIfInBounds_toArray, List.set_cons_zero, List.set_cons_succ]
      refine lt_val (v := ?_) 10 (some 43) rfl (by kernel_rfl) (by kernel_rfl) (by kernel_rfl) (fun _ _ _ h => h) rfl rfl (fun w => ?_) ?_
      rotate_left
      · (go_simp; try with_reducible rfl)
      try simp only [Act.put, List.setIfInBounds_toArray, List.set_cons_zero, List.set_cons_succ]
      refine lt_val (v := ?_) 11 (some 44) rfl (by kernel_rfl) (by kernel_rfl) (by kernel_rfl) (fun _ _ _ h => h) rfl rfl (fun w => ?_) ?_
      rotate_left
      · (go_simp; try with_reducible rfl)
      try simp only [Act.put, List.setIfInBounds_toArray, List.set_cons_zero, List.set_cons_succ]
      refine lt_val (v := ?_) 12 (some 12) rfl (by kernel_rfl) (by kernel_rfl) (by kernel_rfl) (fun _ _ _ h => h) rfl rfl (fun w => ?_) ?_
      rotate_left
      · (go_simp; try with_reducible rfl)
      try simp only [Act.put, List.setIfInBounds_toArray, List.set_cons_zero, List.set_cons_succ]
      refine lt_val (v := ?_) 13 (some 13) rfl (by kernel_rfl) (by kernel_rfl) (by kernel_rfl) (fun _ _ _ h => h) rfl rfl (fun w => ?_) ?_
      rotate_left
      · (go_simp; try with_reducible rfl)
      try simp only [Act.put, List.setIfInBounds_toArray, List.set_cons_zero, List.set_cons_succ]
      refine lt_done (by kernel_rfl) ?_ _
      go_wp2_with fail
      refine lt_begin (fun w' => Blk w' kb (yC 32 k) 23 ∧ w'.cell? ⟨g, o + i, none⟩ = some (.slice p1 n1 cc1)) (fun _ => false) (by kernel_rfl) ?_
      replace G7 := G7.chg (Chg.refl w7 []).drew
      replace BK7 := BK7.drew
      replace BY7 := BY7.drew
      replace SX := SX.kept (Chg.refl w7 []).drew
      have hHeld : Blk w7.drew kb (yC 32 k) 23 ∧ w7.drew.cell? ⟨g, o + i, none⟩ = some (.slice p1 n1 cc1) := ⟨BK7, by rw [G7.cc.cell g _ HC.out.1 (by simp)]; exact HC.out.2⟩
      obtain ⟨w8, hz⟩ : ∃ z, z = w7.drew := ⟨_, rfl⟩
      rw [← hz] at hHeld G7 BK7 BY7 SX ⊢
      clear hz
      refine lt_read (v := (.agg (yC 32 k))) 0 (some 46) rfl (by kernel_rfl) (by kernel_rfl) (by kernel_rfl) (by kernel_rfl) (fun _ _ _ h => h) rfl rfl (fun w hSw => ?_) hHeld ?_
      · have hSw2 : w.cell? ⟨g, o + i, none⟩ = some (.slice p1 n1 cc1) := hSw.2; exact (exec_load_b w 23 (.tmp 4) rfl kb rfl hSw.1 Try.underlying23 rfl (by rw [yC_size]; exact keyInfo))
      try simp only [Act.put, List.setIfInBounds_toArray, List.set_cons_zero, List.set_cons_succ]
      refine lt_val (v := ?_) 1 (some 47) rfl (by kernel_rfl) (by kernel_rfl) (by kernel_rfl) (fun _ _ _ h => h) rfl rfl (fun w => ?_) ?_
      rotate_left
      · (go_simp; try with_reducible rfl)
      try simp only [Act.put, List.setIfInBounds_toArray, List.set_cons_zero, List.set_cons_succ]
      refine lt_val (v := ?_) 2 (some 48) rfl (by kernel_rfl) (by kernel_rfl) (by kernel_rfl) (fun _ _ _ h => h) rfl rfl (fun w => ?_) ?_
      rotate_left
      · (go_simp; try with_reducible rfl)
      try simp only [Act.put, List.setIfInBounds_toArray, List.set_cons_zero, List.set_cons_succ]
      refine lt_val (v := ?_) 3 (some 49) rfl (by kernel_rfl) (by kernel_rfl) (by kernel_rfl) (fun _ _ _ h => h) rfl rfl (fun w => ?_) ?_
      rotate_left
      · (go_simp; try with_reducible rfl)
      try simp only [Act.put, List.setIfInBounds_toArray, List.set_cons_zero, List.set_cons_succ]
      refine lt_val (v := ?_) 4 (some 50) rfl (by kernel_rfl) (by kernel_rfl) (by kernel_rfl) (fun _ _ _ h => h) rfl rfl (fun w => ?_) ?_
      rotate_left
      · (go_simp; try with_reducible rfl)
      try simp only [Act.put, List.setIfInBounds_toArray, List.set_cons_zero, List.set_cons_succ]
      refine lt_val (v := (.pointer (some ⟨g, o + i, none⟩))) 5 (some 51) rfl (by kernel_rfl) (by kernel_rfl) (by kernel_rfl) (fun _ _ _ h => h) rfl rfl (fun w => ?_) ?_
      · (go_simp; try with_reducible rfl)
      try simp only [Act.put, List.setIfInBounds_toArray, List.set_cons_zero, List.set_cons_succ]
      refine lt_read (v := (.slice p1 n1 cc1)) 6 (some 52) rfl (by kernel_rfl) (by kernel_rfl) (by kernel_rfl) (by kernel_rfl) (fun _ _ _ h => h) rfl rfl (fun w hSw => ?_) hHeld ?_
      · have hSw2 : w.cell? ⟨g, o + i, none⟩ = some (.slice p1 n1 cc1) := hSw.2; (go_simp; try with_reducible rfl)
      try simp only [Act.put, List.setIfInBounds_toArray, List.set_cons_zero, List.set_cons_succ]
      refine lt_one 7 rfl (by kernel_rfl) rfl (fun K hK => ?_)
      go_simp
      refine (HB2.out w8 (HV2.out.1.kept G7.cc) (HS.out.1.kept G7.cc)).mono ?_
      rintro e w9 ⟨sy, rfl, SY, k9⟩
      have G9 := G7.chg k9
      go_wp2_with fail
      refine hK.out _ _ (fun _ h => ⟨h.1.chg k9 (by simp), by rw [G9.cc.cell g _ HC.out.1 (by simp)]; exact HC.out.2⟩) ?_
      have BK9 := BK7.chg k9 (by simp)
      have BY9 := BY7.chg k9 (by simp)
      have SX9 := SX.kept k9
      clear G7 BK7 BY7 SX k9 hHeld
      clear hK K
      try simp only [Act.put, List.setIfInBounds_toArray, List.set_cons_zero, List.set_cons_succ]
      refine lt_val (v := ?_) 8 (some 45) rfl (by kernel_rfl) (by kernel_rfl) (by kernel_rfl) (fun _ _ _ h => h) rfl rfl (fun w => ?_) ?_
      rotate_left
      · (go_simp; try with_reducible rfl)
      try simp only [Act.put, List.setIfInBounds_toArray, List.set_cons_zero, List.set_cons_succ]
      refine lt_val (v := ?_) 9 (some 54) rfl (by kernel_rfl) (by kernel_rfl) (by kernel_rfl) (fun _ _ _ h => h) rfl rfl (fun w => ?_) ?_
      rotate_left
      · (go_simp; try with_reducible rfl)
      try simp only [Act.put, List.setIfInBounds_toArray, List.set_cons_zero, List.set_cons_succ]
      refine lt_val (v := ?_) 10 (some 55) rfl (by kernel_rfl) (by kernel_rfl) (by kernel_rfl) (fun _ _ _ h => h) rfl rfl (fun w => ?_) ?_
      rotate_left
      · (go_simp; try with_reducible rfl)
      try simp only [Act.put, List.setIfInBounds_toArray, List.set_cons_zero, List.set_cons_succ]
      refine lt_val (v := ?_) 11 (some 14) rfl (by kernel_rfl) (by kernel_rfl) (by kernel_rfl) (fun _ _ _ h => h) rfl rfl (fun w => ?_) ?_
      rotate_left
      · (go_simp; try with_reducible rfl)
      try simp only [Act.put, List.setIfInBounds_toArray, List.set_cons_zero, List.set_cons_succ]
      refine lt_val (v := ?_) 12 (some 15) rfl (by kernel_rfl) (by kernel_rfl) (by kernel_rfl) (fun _ _ _ h => h) rfl rfl (fun w => ?_) ?_
      rotate_left
      · (go_simp; try with_reducible rfl)
      try simp only [Act.put, List.setIfInBounds_toArray, List.set_cons_zero, List.set_cons_succ]
      refine lt_done (by kernel_rfl) ?_ _
      go_wp2_with fail
      refine (SameBytes_z sx L X sy L X w9 SX9 SY).mono ?_
      rw [sameB_self (fun _ _ => rfl)]
      rintro e wa ⟨rfl, ka⟩
      have Ga := G9.chg ka
      have BKa := BK9.chg ka (by simp)
      have BYa := BY9.chg ka (by simp)
      clear G9 BK9 BY9 SX9 SY ka
      by_cases q : E = 0
      · have ha : a1 = at' + 1 := HNX.out.1.1 q
        have e9 : IntKind.u64.wrap ((at' : Int) + 1) = (a1 : Int) := by have := HNX.out.2.2; rw [IntKind.wrap_u64]; omega
        have e9b : (at' : Int) + 1 = (a1 : Int) := by omega
        have e9c : IntKind.u64.wrap (a1 : Int) = (a1 : Int) := by have := HNX.out.2.2; rw [IntKind.wrap_u64]; omega
        subst q
        clear ha
        go_wp2_with fail
        refine (num_s 0 wa).mono ?_
        rintro e wb ⟨rfl, rfl⟩
        go_wp2_with fail
        refine (Next_s y a1 k true _ BYa).mono ?_
        rintro e wc ⟨rfl, rfl⟩
        go_wp2_with fail
        exact ⟨⟨i + 1, by have := HI.out; omega, by go_num, ⟨a1, rfl, HNX.out.2.2, BYa⟩, BKa, Ga⟩, by simp [intOf]; have := HI.out; omega⟩
      · have ha : a1 = at' := HNX.out.2.1 q
        subst ha
        go_wp2_with fail
        refine (num_s E wa).mono ?_
        rintro e wb ⟨rfl, rfl⟩
        go_wp2_with fail
        refine (Next_s y a1 k true _ BYa).mono ?_
        rintro e wc ⟨rfl, rfl⟩
        go_wp2_with fail
        exact ⟨⟨i + 1, by have := HI.out; omega, by go_num, ⟨a1, rfl, HAT.out, BYa⟩, BKa, Ga⟩, by simp [intOf]; have := HI.out; omega⟩
    · have hI : ¬ (i : Int) < (K : Int) := by omega
      go_wp2_with fail
      refine (G0.intact (by have := HT.out.1.1; omega)).mono ?_
      rintro e w9 ⟨rfl, k9⟩
      have K9 := G0.cc.trans1 k9
      clear G0 k9
      go_wp2_with fail
      refine (works_s w9).mono ?_
      rintro e wA ⟨rfl, kA⟩
      go_wp2_with fail
      go_ret
      exact ⟨rfl, K9.trans1 kA⟩
end Go.Proofs.Ytachilkhbfpahaa

/- What comes in: arrays of bytes, a []byte, a [][]byte; the bounds on them. -/
set_option linter.constructorNameAsVariable false
namespace Go.Proofs.Ytachilkhbfpahaa
open Go.ChangeShapes Go.WideShapes Go.ChangeAt Go.RowKit Go.Deep

theorem own : ownKnob Try.prog.godebug = none := by kernel_rfl
theorem laidOut : laidOutB Try.prog = true := by kernel_rfl
theorem u8Cells : Try.prog.cellsOf 5 = 1 := by kernel_rfl
theorem u8Bytes : Try.prog.bytesOf 5 = 1 := by kernel_rfl
theorem bytesC1 : Try.prog.cellsOf 27 = 1 := by kernel_rfl
theorem keyCells : Try.prog.cellsOf 23 = 32 := by kernel_rfl
theorem nonCells : Try.prog.cellsOf 26 = 12 := by kernel_rfl
theorem u8_wf {n : Int} (h : (Lit.int .u8 n).wf = true) : 0 ≤ n ∧ n < 256 := by
  have := bounds_u8 h
  omega
theorem u64_wf {n : Int} (h : (Lit.int .u64 n).wf = true) : 0 ≤ n ∧ n < 18446744073709551616 := by
  have := bounds_u64 h
  omega
theorem shape_lt {w : World} {b : Nat} {x : TypeId × Nat} (h : w.shape? b = some x) : b < w.heap.size := by
  unfold World.shape? at h
  by_cases hb : b < w.heap.size
  · exact hb
  · rw [Array.getElem?_eq_none (by omega)] at h
    simp at h
theorem cell_plain {w : World} {g o : Nat} {s : Option Nat} {v : Value} (h : w.cell? ⟨g, o, s⟩ = some v) : s = none ∧ g < w.heap.size := by
  unfold World.cell? at h
  by_cases hb : g < w.heap.size
  · refine ⟨?_, hb⟩
    cases s with
    | none => rfl
    | some x =>
      exfalso
      revert h
      split <;> simp
  · rw [Array.getElem?_eq_none (by simpa using Nat.le_of_not_lt hb)] at h
    simp at h
theorem take_at {cs : List Value} {i : Nat} {v : Value} (e1 : ((cs.drop i).take 1) = [v]) : cs[i]? = some v := by
  have e2 := congrArg (fun l => l[0]?) e1
  simp only [List.getElem?_take, List.getElem?_drop] at e2
  simpa using e2
/-- What is read counts one at least. -/
theorem bulk_pos {H : Type} (d : DataW H) : 1 ≤ Rows.uptoBulk d := by
  cases d with
  | lit l => cases l <;> simp [Rows.uptoBulk]
  | nil => simp [Rows.uptoBulk]
  | ptr d => simp [Rows.uptoBulk]
  | slice x y => simp [Rows.uptoBulk]
  | agg x => simp [Rows.uptoBulk]
  | iface t d => simp [Rows.uptoBulk]
  | map x => simp [Rows.uptoBulk]
  | held h => simp [Rows.uptoBulk]
theorem bulk_join {H : Type} (l : List (DataW H)) : ∀ r, Rows.uptoBulkAll (l ++ r) = Rows.uptoBulkAll l + Rows.uptoBulkAll r := by
  induction l with
  | nil => intro r; simp [Rows.uptoBulkAll]
  | cons x l ih => intro r; simp only [List.cons_append, Rows.uptoBulkAll, ih r]; omega
theorem len_bulk {H : Type} : ∀ l : List (DataW H), l.length ≤ Rows.uptoBulkAll l
  | [] => Nat.zero_le _
  | x :: l => by
    have h1 := len_bulk l
    have h2 := bulk_pos x
    simp only [List.length_cons, Rows.uptoBulkAll]
    omega
/-- An array's bytes. -/
theorem arr_cells {H : Type} {enc : TypeId × Value → H} {w : World} {base fuel : Nat} {spare : Nat → Bool} {held : Bool} {t : TypeId} {n : Nat} {cs : List Value} {x : DataW H × List MemPlace} (hu : Try.prog.underlying t = some (.array n 5))
    (hf : DataW.trod enc Try.prog w base spare held fuel t cs = some x) : ∃ f : Nat → Nat, ∀ i, i < n → f i < 256 ∧ cs[i]? = some (.int .u8 (f i)) := by
  obtain ⟨xs, m, _, _, _, hlen, hall⟩ := DataW.trod_array hu hf
  have hb : ∀ i, i < n → ∃ b : Nat, b < 256 ∧ cs[i]? = some (.int .u8 (b : Int)) := fun i hi => by
    have h1 := hall i hi
    rw [List.getElem?_eq_getElem (by omega), u8Cells, Nat.mul_one] at h1
    obtain ⟨z, e1, _, wf⟩ := DataW.trod_int Try.underlying5 h1
    have u := u8_wf wf
    obtain ⟨b, rfl⟩ := Int.eq_ofNat_of_zero_le u.1
    exact ⟨b, by omega, take_at e1⟩
  exact choose_lt hb
theorem open_arr {H : Type} {enc : TypeId × Value → H} {w : World} {r : Reach} {b0 base : Nat} {spare : Nat → Bool} {held : Bool} {t : TypeId} {n : Nat} {v : Value} {d : DataW H} {p : List MemPlace} (hu : Try.prog.underlying t = some (.array n 5)) (hn : Try.prog.cellsOf t = n)
    (hv : Value.okWide Try.prog w r b0 t v) (h : DataW.Trod enc Try.prog w base spare held t v d p) : ∃ f : Nat → Nat, (∀ i, i < n → f i < 256) ∧ v = .agg (yC n f) := by
  simp only [Value.okWide, hu] at hv
  obtain ⟨cs, rfl, hsz, _⟩ := hv
  rw [hn] at hsz
  obtain ⟨fuel, hf⟩ := h
  obtain ⟨f, hf⟩ := arr_cells hu hf
  refine ⟨f, fun i hi => (hf i hi).1, congrArg Value.agg ?_⟩
  apply Array.ext_getElem?
  intro i
  by_cases hi : i < n
  · rw [yC_get n f i hi]
    have := (hf i hi).2
    simpa [Value.cells] using this
  · rw [Array.getElem?_eq_none (by omega), Array.getElem?_eq_none (by rw [yC_size]; omega)]
set_option maxRecDepth 100000 in
/-- A []byte that is read. -/
theorem open_part {H : Type} {enc : TypeId × Value → H} {w : World} {base fuel : Nat} {held : Bool} {v : Value} {d : DataW H} {p : List MemPlace}
    (hf : DataW.trod enc Try.prog w base (fun _ => true) held fuel 27 [v] = some (d, p)) : ∃ n f, Sz w v n f ∧ n ≤ Rows.uptoBulk d ∧ (n = 0 ∨ ∃ es ss, d = .slice es ss ∧ es.length = n) := by
  rcases open_slice1 Try.underlying27 u8Cells hf with ⟨h0, _⟩ | ⟨a, len, cap, m, n, V, D, Pl, h0, _, hl, hc, hm, hd, hx⟩
  · have e : v = .slice none 0 0 := by simpa using h0
    exact ⟨0, fun _ => 0, ⟨none, 0, e, by omega, by omega, fun h => by omega⟩, Nat.zero_le _, Or.inl rfl⟩
  · have e : v = .slice (some a) len cap := by simpa using h0
    have hm2 : m = cap := by rw [hm]; simp
    subst hm2
    have ed : d = .slice ((List.range len).map D) ((List.range (m - len)).map fun j => D (len + j)) := (Prod.mk.inj hd).1
    have hb : len ≤ Rows.uptoBulk d := by
      rw [ed]
      have := len_bulk ((List.range len).map D)
      simp only [List.length_map, List.length_range] at this
      simp only [Rows.uptoBulk]
      omega
    refine ⟨len, fun i => (intOf (V i)).toNat, ⟨some a, m, e, hl, by simpa [maxLen] using hc, fun h0 => ?_⟩, hb, Or.inr ⟨_, _, ed, by simp⟩⟩
    obtain ⟨g, o, s⟩ := a
    obtain ⟨c0, _⟩ := hx 0 (by omega)
    rw [show Addr.add ⟨g, o, s⟩ 0 = ⟨g, o, s⟩ from by simp [Addr.add]] at c0
    obtain ⟨rfl, hlt⟩ := cell_plain c0
    refine ⟨g, o, rfl, hlt, fun i hi => ?_, fun i hi => ?_⟩
    · obtain ⟨_, h2⟩ := hx i (by omega)
      obtain ⟨k, e1, _, wf⟩ := DataW.trod_int Try.underlying5 h2
      have u := u8_wf wf
      have e2 : V i = .int .u8 k := by simpa using e1
      rw [e2]
      simp only [intOf]
      omega
    · obtain ⟨h1, h2⟩ := hx i (by omega)
      obtain ⟨k, e1, _, wf⟩ := DataW.trod_int Try.underlying5 h2
      have u := u8_wf wf
      have e2 : V i = .int .u8 k := by simpa using e1
      have ha : (Addr.add ⟨g, o, none⟩ i) = ⟨g, o + i, none⟩ := Addr.add_mid g o i
      rw [ha] at h1
      rw [h1, e2]
      simp only [intOf]
      congr 2
      omega
set_option maxRecDepth 100000 in
theorem open_sz {H : Type} {enc : TypeId × Value → H} {w : World} {r : Reach} {b0 base : Nat} {held : Bool} {v : Value} {d : DataW H} {p : List MemPlace}
    (hv : Value.okWide Try.prog w r b0 27 v) (h : DataW.Trod enc Try.prog w base (fun _ => true) held 27 v d p) : ∃ n f, Sz w v n f ∧ n ≤ Rows.uptoBulk d ∧ (n = 0 ∨ ∃ es ss, d = .slice es ss ∧ es.length = n) := by
  obtain ⟨fuel, hf⟩ := h
  obtain ⟨a0, l0, c0, rfl⟩ := okWide_slice Try.underlying27 hv
  exact open_part hf
theorem all_mem {H : Type} (P : Program) (e : TypeId) (x : Nat) : ∀ (l : List (DataW H)) (i : Nat) (d : DataW H), l[i]? = some d → x ∈ d.weights P e → x ∈ DataW.weightsAll P e l
  | [], i, d, h, _ => by simp at h
  | a :: l, 0, d, h, hx => by
    simp at h
    subst h
    simp [DataW.weightsAll, hx]
  | a :: l, i + 1, d, h, hx => by
    simp at h
    simp [DataW.weightsAll, all_mem P e x l i d h hx]
/-- Each part of a list that came in is no longer than what a list may be. -/
theorem sized_part {H : Type} {ts : List TypeId} {ds : List (DataW H)} (h : (DataW.weightsEach Try.prog ts ds).all (· ≤ reachBytes) = true) {j : Nat} {elems spare : List (DataW H)} (ht : ts[j]? = some 28) (hd : ds[j]? = some (.slice elems spare)) {i : Nat} {es ss : List (DataW H)} (hi : elems[i]? = some (.slice es ss)) :
    es.length ≤ 140737488351232 := by
  have hm : (es.length + ss.length) * Try.prog.bytesOf 5 ∈ DataW.weights Try.prog 28 (.slice elems spare : DataW H) := by
    have q := all_mem Try.prog 27 ((es.length + ss.length) * Try.prog.bytesOf 5) elems i _ hi (by simp [DataW.weights, Try.underlying27])
    simp [DataW.weights, Try.underlying28, q]
  have := List.all_eq_true.1 h _ (DataW.weights_mem_each ht hd _ hm)
  rw [u8Bytes] at this
  simp [reachBytes] at this
  omega
set_option maxRecDepth 100000 in
/-- A [][]byte that came in. -/
theorem open_txs {H : Type} {enc : TypeId × Value → H} {w : World} {r : Reach} {b0 base : Nat} {held : Bool} {v : Value} {d : DataW H} {p : List MemPlace} {ts : List TypeId} {ds : List (DataW H)} {j : Nat} (hz : (DataW.weightsEach Try.prog ts ds).all (· ≤ reachBytes) = true) (hj : ts[j]? = some 28) (hdj : ds[j]? = some d)
    (hv : Value.okWide Try.prog w r b0 28 v) (h : DataW.Trod enc Try.prog w base (fun _ => true) held 28 v d p) :
    ∃ k pv pn pf, Tx w v k pv pn pf := by
  obtain ⟨fuel, hf⟩ := h
  obtain ⟨a0, l0, c0, rfl⟩ := okWide_slice Try.underlying28 hv
  rcases open_slice1 Try.underlying28 bytesC1 hf with ⟨h0, _⟩ | ⟨a, len, cap, m, n, V, D, Pl, h0, _, hl, hc, hm, hd, hx⟩
  · refine ⟨0, fun _ => .slice none 0 0, fun _ => 0, fun _ _ => 0, none, 0, ?_, by omega, fun h => by omega, fun i hi => absurd hi (Nat.not_lt_zero _)⟩
    simpa [Value.cells] using h0
  · have h0' : Value.slice a0 l0 c0 = .slice (some a) len cap := by simpa [Value.cells] using h0
    rw [h0'] at hv ⊢
    simp only [Value.okWide, Try.underlying28, Cell.okWide, Cell.ok, World.has] at hv
    obtain ⟨_, _, _, hs, row, cells, hsh, _⟩ := hv
    have hlt := shape_lt hsh
    obtain ⟨g, o, spot⟩ := a
    simp only at hs
    subst hs
    have hml : len ≤ m := by rw [hm]; split <;> omega
    have hcap : cap ≤ 9223372036854775807 := by simpa [maxLen] using hc
    have ed : d = .slice ((List.range len).map D) ((List.range (m - len)).map fun j => D (len + j)) := (Prod.mk.inj hd).1
    rw [ed] at hdj
    obtain ⟨q, hq⟩ := choose_lt (α := Nat × (Nat → Nat)) (n := len) (p := fun i x => Sz w (V i) x.1 x.2 ∧ x.1 ≤ 140737488351232) (fun i hi => by
      obtain ⟨n', f', h1, _, h2⟩ := open_part (hx i (by omega)).2
      refine ⟨(n', f'), h1, ?_⟩
      rcases h2 with rfl | ⟨es, ss, h3, rfl⟩
      · exact Nat.zero_le _
      · exact sized_part hz hj hdj (i := i) (es := es) (ss := ss) (by simp [hi, h3]))
    refine ⟨len, V, fun i => (q i).1, fun i => (q i).2, _, cap, rfl, by omega, fun _ => ⟨g, o, rfl, hlt, fun i hi => ?_⟩, fun i hi => hq i hi⟩
    have h1 := (hx i (by omega)).1
    rw [show (Addr.add ⟨g, o, none⟩ i) = ⟨g, o + i, none⟩ from Addr.add_mid g o i] at h1
    exact h1
end Go.Proofs.Ytachilkhbfpahaa

/- A [][]byte that came in, of bounded bulk. -/
namespace Go.Proofs.Ytachilkhbfpahaa
open Go.ChangeShapes Go.WideShapes Go.ChangeAt Go.RowKit Go.Deep

theorem bulk_len {H : Type} : ∀ l : List (DataW H), l.length ≤ Rows.uptoBulkAll l
  | [] => Nat.zero_le _
  | d :: l => by
    have := bulk_pos d
    have := bulk_len l
    simp only [Rows.uptoBulkAll, List.length_cons]
    omega
theorem bulk_part {H : Type} : ∀ (l : List (DataW H)) (i : Nat) (d : DataW H), l[i]? = some d → Rows.uptoBulk d ≤ Rows.uptoBulkAll l
  | [], i, d, h => by simp at h
  | a :: l, 0, d, h => by
    simp at h
    subst h
    simp only [Rows.uptoBulkAll]
    omega
  | a :: l, i + 1, d, h => by
    simp at h
    have := bulk_part l i d h
    simp only [Rows.uptoBulkAll]
    omega
set_option maxRecDepth 100000 in
theorem open_txsU {H : Type} {enc : TypeId × Value → H} {w : World} {r : Reach} {b0 base : Nat} {held : Bool} {v : Value} {d : DataW H} {p : List MemPlace}
    (hv : Value.okWide Try.prog w r b0 28 v) (h : DataW.Trod enc Try.prog w base (fun _ => true) held 28 v d p) (hb : Rows.uptoBulk d ≤ 1048576) :
    ∃ k pv pn pf, Tx w v k pv pn pf ∧ k ≤ 1048576 ∧ ∀ i, i < k → pn i ≤ 1048576 := by
  obtain ⟨fuel, hf⟩ := h
  obtain ⟨a0, l0, c0, rfl⟩ := okWide_slice Try.underlying28 hv
  rcases open_slice1 Try.underlying28 bytesC1 hf with ⟨h0, _⟩ | ⟨a, len, cap, m, n, V, D, Pl, h0, _, hl, hc, hm, hd, hx⟩
  · refine ⟨0, fun _ => .slice none 0 0, fun _ => 0, fun _ _ => 0, ⟨none, 0, ?_, by omega, fun h => by omega, fun i hi => absurd hi (Nat.not_lt_zero _)⟩, by omega, fun i hi => absurd hi (Nat.not_lt_zero _)⟩
    simpa [Value.cells] using h0
  · have h0' : Value.slice a0 l0 c0 = .slice (some a) len cap := by simpa [Value.cells] using h0
    rw [h0'] at hv ⊢
    simp only [Value.okWide, Try.underlying28, Cell.okWide, Cell.ok, World.has] at hv
    obtain ⟨_, _, _, hs, row, cells, hsh, _⟩ := hv
    have hlt := shape_lt hsh
    obtain ⟨g, o, spot⟩ := a
    simp only at hs
    subst hs
    have hml : len ≤ m := by rw [hm]; split <;> omega
    have hcap : cap ≤ 9223372036854775807 := by simpa [maxLen] using hc
    have ed : d = .slice ((List.range len).map D) ((List.range (m - len)).map fun j => D (len + j)) := (Prod.mk.inj hd).1
    have eb : Rows.uptoBulkAll ((List.range len).map D) ≤ 1048576 := by
      rw [ed] at hb
      simp only [Rows.uptoBulk] at hb
      omega
    have el := bulk_len ((List.range len).map D)
    simp only [List.length_map, List.length_range] at el
    obtain ⟨q, hq⟩ := choose_lt (α := Nat × (Nat → Nat)) (n := len) (p := fun i x => Sz w (V i) x.1 x.2 ∧ x.1 ≤ 1048576) (fun i hi => by
      obtain ⟨n', f', h1, h2, _⟩ := open_part (hx i (by omega)).2
      have h3 := bulk_part ((List.range len).map D) i (D i) (by simp [hi])
      exact ⟨(n', f'), h1, by show n' ≤ 1048576; omega⟩)
    refine ⟨len, V, fun i => (q i).1, fun i => (q i).2, ⟨_, cap, rfl, by omega, fun _ => ⟨g, o, rfl, hlt, fun i hi => ?_⟩, fun i hi => ⟨(hq i hi).1, by have := (hq i hi).2; show (q i).1 ≤ 140737488351232; omega⟩⟩, by omega, fun i hi => (hq i hi).2⟩
    have h1 := (hx i (by omega)).1
    rw [show (Addr.add ⟨g, o, none⟩ i) = ⟨g, o + i, none⟩ from Addr.add_mid g o i] at h1
    exact h1
end Go.Proofs.Ytachilkhbfpahaa

/- For every key, every number next, every []byte open and every [][]byte texts of bulk at most 1048576 together, rimelaw12.SealBoxes returns true and its arguments read afterwards as they read before. Its condition: that bound. -/
set_option linter.constructorNameAsVariable false
namespace Go.Proofs.Ytachilkhbfpahaa
open Go.ChangeShapes Go.WideShapes Go.ChangeAt Go.RowKit Go.Deep

set_option maxRecDepth 100000 in
theorem sealBoxes_lifted (os : Go.Os) (started : os.Started) (H : Type) (enc : TypeId × Value → H) (F : Stop.Interp) :
    ReturnsInHanded {} Try.checked os 8 .any ((Rows.OpenSpec.upto Rows.sealBoxesSpec).pre6 enc Try.prog Try.f8 Rows.sealBoxesUptoRow.domain false) (((Rows.OpenSpec.upto Rows.sealBoxesSpec).at F).post enc Try.prog Try.f8 false true false false) := by
  refine returnsInHanded_of_cond (C := Try.checked) (s := Rows.OpenSpec.upto Rows.sealBoxesSpec) (k := Rows.uptoSmall) rfl own started (by kernel_rfl) Try.func8
    (OpenSpec.witness (enc := enc) (C := Try.checked) (s := Rows.OpenSpec.upto Rows.sealBoxesSpec) (k := Rows.uptoSmall) rfl false ⟨#[], #[.agg (yC 32 z0), .int .u64 0, .slice none 0 0, .slice none 0 0], []⟩ 8 (by kernel_rfl) (by kernel_rfl) (by kernel_rfl)
      (x := ([.agg (List.replicate 32 (.lit (.int .u8 0))), .lit (.int .u64 0), .nil, .nil], [], [])) (by kernel_rfl) rfl (by kernel_rfl)) ?_
  intro W base args ds gs before hval0 hW _ hk0 _
  have hval : ∀ (j : Nat) t v, Try.f8.params[j]? = some t → args[j]? = some v → Value.okWide Try.prog W .any base t v := hval0
  have hW' := hW
  obtain ⟨p, q, hA0, hV, rfl, hfz, hnd⟩ := hW
  have hA : DataW.TrodAll enc Try.prog W 0 (fun _ => true) true Try.f8.params.toList args.toList ds p := hA0
  rw [Try.params8] at hA hval
  obtain ⟨v0, v1, v2, v3, d0, d1, d2, d3, p0, p1, p2, p3, rfl, rfl, rfl, h0, h1, h2, h3⟩ := trodAll_four hA
  obtain ⟨rfl, rfl⟩ := trodVars_none hV
  have lt0 : ∀ x ∈ p0, x.block < W.heap.size := by obtain ⟨m, hm⟩ := h0; exact DataW.trod_lt m _ _ _ hm
  have lt1 : ∀ x ∈ p1, x.block < W.heap.size := by obtain ⟨m, hm⟩ := h1; exact DataW.trod_lt m _ _ _ hm
  have lt2 : ∀ x ∈ p2, x.block < W.heap.size := by obtain ⟨m, hm⟩ := h2; exact DataW.trod_lt m _ _ _ hm
  have lt3 : ∀ x ∈ p3, x.block < W.heap.size := by obtain ⟨m, hm⟩ := h3; exact DataW.trod_lt m _ _ _ hm
  obtain ⟨k, hk, rfl⟩ := open_arr Try.underlying23 keyCells (hval 0 23 v0 rfl rfl) h0
  obtain ⟨nx, rfl, _, _, wf⟩ := open_int Try.underlying67 (hval 1 67 v1 rfl rfl) h1
  obtain ⟨a, rfl⟩ := Int.eq_ofNat_of_zero_le (u64_wf wf).1
  obtain ⟨n2, f2, hS2, hb2, _⟩ := open_sz (hval 2 27 v2 rfl rfl) h2
  obtain ⟨K3, tv3, tn3, tf3, hT3, hK3, hn3⟩ := open_txsU (hval 3 28 v3 rfl rfl) h3 (by have hb := of_decide_eq_true hk0; simp only [List.append_nil, Rows.uptoBulkAll] at hb; omega)
  have hb := of_decide_eq_true hk0
  simp only [List.append_nil, Rows.uptoBulkAll] at hb
  clear hA0 hval0
  refine (boxes_walk k hk a (by have := (u64_wf wf).2; omega) v2 n2 f2 v3 K3 tv3 tn3 tf3 W hS2 (by omega) hT3 (by omega) hn3).mono fun e W' ⟨he, hc⟩ => ?_
  have bel := hc.below
  subst he
  exact ⟨_, rfl, _, _, _, [], _, [], hW', trodAll_mk1 (shut_bool Try.underlying4 _), (trodAll_cons_mk (Below.trod laidOut (by kernel_rfl) (of_decide_eq_true (by kernel_rfl)) h0 bel lt0) (trodAll_cons_mk (Below.trod laidOut (by kernel_rfl) (of_decide_eq_true (by kernel_rfl)) h1 bel lt1) (trodAll_cons_mk (Below.trod laidOut (by kernel_rfl) (of_decide_eq_true (by kernel_rfl)) h2 bel lt2) (trodAll_cons_mk (Below.trod laidOut (by kernel_rfl) (of_decide_eq_true (by kernel_rfl)) h3 bel lt3) trodAll_mk0)))), rfl, bel.frame _, fun h => by cases h⟩
theorem sealBoxes_holds : Rows.SealBoxesUptoSaid :=
  OpenClaim.holds_of_cond 8 Try.f8 rfl rfl rfl rfl rfl rfl rfl ⟨rfl, rfl, rfl, rfl, rfl⟩ rfl rfl rfl rfl rfl (by kernel_rfl) Try.func8 (by kernel_rfl)
    (of_decide_eq_true (by kernel_rfl)) (by unfold Func.isWrapper; first | (rw [if_pos (by decide +kernel)]; kernel_rfl) | (rw [if_neg (by decide +kernel)]; exact ⟨rfl, rfl⟩))
    (fun os started H enc _ F => sealBoxes_lifted os started H enc F)
end Go.Proofs.Ytachilkhbfpahaa
