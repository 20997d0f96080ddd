/- SealCounts: the walk. -/
import Derived.Test.YtnopkojpgemldaaSeCg
import Derived.Test.YtnopkojpgemldaaSeWk
import Derived.Test.YtnopkojpgemldaaSeSm
set_option linter.unusedVariables false
set_option linter.unusedSimpArgs false
set_option linter.unnecessarySimpa false
namespace Go.Proofs.Ytnopkojpgemldaa
open Go.RowKit

/-- A list of texts. -/
def Tx (w : World) (v : Value) (K : Nat) (tv : Nat → Value) (tn : Nat → Nat) (tf : Nat → Nat → Nat) : Prop :=
  ∃ p c, v = .slice p K c ∧ K ≤ 9223372036854775807 ∧ (0 < K → ∃ g o, p = some ⟨g, o, none⟩ ∧ g < w.heap.size ∧ ∀ i, i < K → w.cell? ⟨g, o + i, none⟩ = some (tv i)) ∧ ∀ i, i < K → Sz w (tv i) (tn i) (tf i) ∧ tn i ≤ 140737488351232
theorem Blk.szn {w : World} {g N : Nat} {b : Nat → Nat} {T : TypeId} (h : Blk w g (yC N b) T) (hb : ∀ i, i < N → b i < 256) (hc : N ≤ 9223372036854775807) : Sz w (.slice (some ⟨g, 0, none⟩) N N) N b :=
  (h.sz hb 0 N N (by omega) (by omega) hc).cg fun i _ => by rw [Nat.zero_add]
set_option maxHeartbeats 8000000 in
set_option maxRecDepth 100000 in
theorem counts_walk (k : Nat → Nat) (hk : ∀ i, i < 32 → k i < 256) (nx : Nat) (hnx : nx < 18446744073709551616) (v2 : Value) (n0 : Nat) (f0 : Nat → Nat) (v3 : Value) (K : Nat) (tv : Nat → Value) (tn : Nat → Nat) (tf : Nat → Nat → Nat) (w : World)
    (hv2 : Sz w v2 n0 f0) (hv3 : Tx w v3 K tv tn tf) : Calls Try.prog 7 #[.agg (yC 32 k), .int .u64 (nx : Int), v2, v3] w fun e w' => e = .returned (.bool true) ∧ Chg w w' [] := by
  obtain ⟨p, c, rfl, hK, hcell, htx⟩ := hv3
  have HK : Hid ((∀ i, i < 32 → k i < 256) ∧ nx < 18446744073709551616) := ⟨hk, hnx⟩
  have HV2 : Hid (Sz w v2 n0 f0) := hv2
  have HT : Hid ((K ≤ 9223372036854775807 ∧ (0 < K → ∃ g o, p = some ⟨g, o, none⟩ ∧ g < w.heap.size ∧ ∀ i, i < K → w.cell? ⟨g, o + i, none⟩ = some (tv i))) ∧ ∀ i, i < K → Sz w (tv i) (tn i) (tf i) ∧ tn i ≤ 140737488351232) := ⟨⟨hK, hcell⟩, htx⟩
  clear hk hnx hv2 hK hcell htx
  go_enter Try.func7, Try.ntmps7
  go_wp2_with (refine box_w rfl 23 _ rfl (yC 32 k) rfl ?_; intro kb w1 hkb BK k1)
  refine (works_s w1).mono ?_
  rintro e w2 ⟨rfl, k2⟩
  have K2 : Chg w w2 [] := k1.trans1 k2
  have BK2 := BK.chg k2 (by simp)
  clear k1 k2 BK
  go_wp2_with (first
    | (with_reducible refine load_b BK2 23 (.tmp 4) Try.underlying23 ?_ ?_ ?_ ?_ ?_ ?_
       · rfl
       · rfl
       · rfl
       · rfl
       · (rw [yC_size]; exact keyInfo)))
  refine (New_s k nx w2).mono ?_
  rintro e w3 ⟨y, rfl, hy, BY, k3⟩
  have K3 : Chg w w3 [] := K2.trans1 k3
  have HY : Hid (w.heap.size ≤ y ∧ ¬ kb = y) := ⟨by have := K2.size; omega, by have := BK2.lt; omega⟩
  have BK3 := BK2.chg k3 (by simp)
  clear k3 BK2 hy K2 hkb
  go_wp2_with fail
  go_loopw [10] (fun t wr => ∃ i : Nat, i ≤ K ∧ t = .int .i64 (i : Int) ∧ (∃ a : Nat, a < 18446744073709551616 ∧ Blk wr y (slC k a true) 80) ∧ Chg w3 wr [y]) (fun t _ => ((K : Int) - intOf t).toNat)
  case atStart => exact ⟨0, by omega, rfl, ⟨nx, HK.out.2, BY⟩, Chg.refl _ _⟩
  case round =>
    clear BY
    obtain ⟨i, hi, rfl, ⟨at', hat', BY⟩, c0⟩ := hrel
    have HAT : Hid (at' < 18446744073709551616) := hat'
    clear hat'
    by_cases h8 : i < K
    · have hI : (i : Int) < (K : Int) := by omega
      have e1 : IntKind.i64.wrap ((i : Int) + 1) = (i : Int) + 1 := by have := HT.out.1.1; rw [IntKind.wrap_i64]; omega
      obtain ⟨g, o, rfl, hg, hc⟩ := HT.out.1.2 (by omega)
      have C0 : Chg w wr [y] := K3.wide.trans1 c0
      have HC : Hid (g < w.heap.size ∧ w.cell? ⟨g, o + i, none⟩ = some (tv i)) := ⟨hg, hc i h8⟩
      have HS : Hid (Sz w (tv i) (tn i) (tf i) ∧ tn i ≤ 140737488351232) := HT.out.2 i h8
      have c1 : wr.cell? ⟨g, o + i, none⟩ = some (tv i) := by rw [C0.cell g _ HC.out.1 (by have := HC.out.1; have := HY.out; simp; omega)]; exact HC.out.2
      obtain ⟨tvi, htvi⟩ : ∃ z, tv i = z := ⟨_, rfl⟩
      obtain ⟨n1, hn1⟩ : ∃ z, tn i = z := ⟨_, rfl⟩
      obtain ⟨f1, hf1⟩ : ∃ z, tf i = z := ⟨_, rfl⟩
      rw [htvi] at HC HS c1
      rw [hn1, hf1] at HS
      clear htvi hn1 hf1 hg hc
      obtain ⟨p1, cc1, e1', _⟩ := id HS.out.1
      subst e1'
      have BK4 := BK3.chg c0 (by have := HY.out; simp; omega)
      have HI : Hid (i < K) := h8
      clear h8 hi
      go_wp2_with fail
      refine (Next_s y at' k true wr BY).mono ?_
      rintro e w4 ⟨rfl, rfl⟩
      go_wp2_with fail
      by_cases hend : at' = 18446744073709551615
      · subst hend
        refine (Box_end y k _ _ w4 BY).mono ?_
        rintro e w5 ⟨rfl, rfl⟩
        go_wp2_with fail
        refine (Next_s y _ k true w5 BY).mono ?_
        rintro e w6 ⟨rfl, rfl⟩
        go_wp2_with fail
        exact ⟨⟨i + 1, by have := HI.out; omega, by go_num, ⟨_, HAT.out, BY⟩, c0⟩, by simp [intOf]; have := HI.out; omega⟩
      · refine (Box_s y at' k HK.out.1 (by have := HAT.out; omega) v2 n0 f0 _ n1 f1 w4 BY (HV2.out.chg C0 (HV2.out.new [y] (by have := HY.out; simp; omega))) (HV2.out.new [y] (by have := HY.out; simp; omega)) (HS.out.1.chg C0 (HS.out.1.new [y] (by have := HY.out; simp; omega))) (HS.out.1.new [y] (by have := HY.out; simp; omega)) (by have := HS.out.2; omega)).mono ?_
        rintro e w5 ⟨b, rfl, hb, BB, BY5, k5⟩
        have HB1 := box_own k at' n0 f0 n1 f1 (by have := HAT.out; unfold U; omega)
        have HB2 := box_tag k at' n0 f0 n1 f1
        have HB3 := box_num k at' n0 f0 n1 f1 (by have := HAT.out; unfold U; omega)
        have HB4 : Hid (∀ i, i < n1 → xo (fun i => boxB k at' n0 f0 n1 f1 (12 + i)) (ks k 1 (boxB k at' n0 f0 n1 f1)) i = f1 i) := fun i hi => box_txt k at' n0 f0 n1 f1 i hi
        have HB5 : Hid (∀ i, i < n1 + 28 → boxB k at' n0 f0 n1 f1 i < 256) := fun i hi => box_lt k at' n0 f0 n1 f1 HS.out.1.bd i hi
        have HE : Hid (¬ at' = 18446744073709551615) := hend
        have ne : ¬ (at' : Int) = 18446744073709551615 := by omega
        clear hend
        obtain ⟨F, hF⟩ : ∃ F, boxB k at' n0 f0 n1 f1 = F := ⟨_, rfl⟩
        rw [hF] at HB1 HB2 HB3 HB4 HB5 BB
        clear hF
        have C5 : Chg w w5 [y] := C0.trans1 k5
        have BK5 := BK4.chg k5 (by have := HY.out; simp; omega)
        have c5 : w5.cell? ⟨g, o + i, none⟩ = some (.slice p1 n1 cc1) := by rw [C5.cell g _ HC.out.1 (by have := HC.out.1; have := HY.out; simp; omega)]; exact HC.out.2
        clear c1 BY BK4
        go_wp2_with (first
          | (with_reducible refine load_b BK5 23 (.tmp 4) Try.underlying23 ?_ ?_ ?_ ?_ ?_ ?_
             · rfl
             · rfl
             · rfl
             · rfl
             · (rw [yC_size]; exact keyInfo)))
        have q := Unbox_s k HK.out.1 v2 n0 f0 (.slice (some ⟨b, 0, none⟩) (n1 + 28) (n1 + 28)) n1 F w5 (HV2.out.chg C5 (HV2.out.new [y] (by have := HY.out; simp; omega))) (BB.szn HB5.out (by have := HS.out.2; omega)) (by have := HS.out.2; omega)
        rw [HB1, HB2, HB3] at q
        refine q.mono ?_
        clear q HB1 HB2 HB3
        rintro e w6 hq
        rcases hq with ⟨hq, _⟩ | ⟨_, hq, _⟩ | ⟨_, _, t, rfl, ht, BT, k6⟩
        · cases hq
        · cases hq
        have BY6 := BY5.chg k6 (by simp)
        have C6 : Chg w3 w6 [y] := (c0.trans1 k5).trans1 k6.wide
        have CW : Chg w w6 [y] := C5.trans1 k6.wide
        have c6 : w6.cell? ⟨g, o + i, none⟩ = some (.slice p1 n1 cc1) := by rw [CW.cell g _ HC.out.1 (by have := HC.out.1; have := HY.out; simp; omega)]; exact HC.out.2
        have ST := (BT.to (yC_eq HB4.out)).szn HS.out.1.bd (by have := HS.out.2; omega)
        clear c5 BK5 k5 k6 BB BY5 C5
        obtain ⟨a1, ha1⟩ : ∃ z, at' + 1 = z := ⟨_, rfl⟩
        rw [ha1] at BY6
        have e9 : IntKind.u64.wrap ((at' : Int) + 1) = (a1 : Int) := by have := HAT.out; have := HE.out; rw [IntKind.wrap_u64]; omega
        have HA1 : Hid (a1 < 18446744073709551616) := by have := HAT.out; have := HE.out; show a1 < 18446744073709551616; omega
        clear ha1
        go_wp2_with fail
        refine (Next_s y a1 k true w6 BY6).mono ?_
        rintro e w7 ⟨rfl, rfl⟩
        go_wp2_with fail
        have q := SameBytes_z _ n1 f1 (.slice p1 n1 cc1) n1 f1 w7 ST (HS.out.1.chg CW (HS.out.1.new [y] (by have := HY.out; simp; omega)))
        rw [sameB_self (fun _ _ => rfl)] at q
        refine q.mono ?_
        clear q
        rintro e w8 ⟨rfl, k8⟩
        have BY8 := BY6.chg k8 (by simp)
        have C8 := C6.trans1 k8.wide
        clear BY6 C6 CW c6 ST k8 BT
        go_wp2_with fail
        exact ⟨⟨i + 1, by have := HI.out; omega, by go_num, ⟨a1, HA1.out, BY8⟩, C8⟩, by simp [intOf]; have := HI.out; omega⟩
    · have hI : ¬ (i : Int) < (K : Int) := by omega
      go_wp2_with fail
      go_ret
      exact ⟨rfl, K3.new c0 HY.out.1⟩
end Go.Proofs.Ytnopkojpgemldaa
