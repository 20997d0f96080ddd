/- Joined: SeLo, SwOp, SeO, SeCa, SeOpensF. -/
import Derived.Test.YtachilkhbfpahaaSeAp
import Derived.Test.YtachilkhbfpahaaMgX
import Derived.Deep.DeepCutAuto
import Derived.Test.YtachilkhbfpahaaRows
import Derived.Test.YtachilkhbfpahaaSeCt
import Derived.ProofKit
import Derived.OpenShut
import Derived.Stop.Joined
import Derived.Deep.Slices
import Derived.Deep.Strs
import Derived.SizedLaws
import Derived.Below
import Derived.Test.YtachilkhbfpahaaSeM
import Derived.JoinedCond
/- Bytes of the call's own, one of which is turned in place. -/
set_option linter.unusedVariables false
set_option linter.unusedSimpArgs false
set_option linter.unnecessarySimpa false
namespace Go.Proofs.Ytachilkhbfpahaa
open Go.RowKit

/-- The first n cells are the bytes f. -/
def Lo (C : Array Value) (n : Nat) (f : Nat → Nat) : Prop := ∀ i, i < n → C[i]? = some (.int .u8 ((f i : Nat) : Int))
theorem Lo.set {C : Array Value} {n : Nat} {f : Nat → Nat} (h : Lo C n f) (j x : Nat) : Lo (C.setIfInBounds j (.int .u8 ((x : Nat) : Int))) n (up f j x) := fun i hi => by
  rw [Array.getElem?_setIfInBounds]
  unfold up
  by_cases hj : j = i
  · subst hj
    have hs : j < C.size := by
      by_cases hs : j < C.size
      · exact hs
      · have := h j hi
        rw [Array.getElem?_eq_none (by omega)] at this
        cases this
    rw [if_pos rfl, if_pos hs, if_pos rfl]
  · rw [if_neg hj, if_neg (fun e => hj e.symm)]
    exact h i hi
theorem Own.lo {w : World} {base : Nat} {v : Value} {n : Nat} {f : Nat → Nat} (h : Own w base v n f) (h0 : 0 < n) : ∃ g c C, v = .slice (some ⟨g, 0, none⟩) n c ∧ base ≤ g ∧ n ≤ c ∧ c ≤ 9223372036854775807 ∧ Blk w g C 5 ∧ Lo C n f := by
  obtain ⟨⟨_, h1⟩, _⟩ := h
  rcases h1 with ⟨_, h1⟩ | ⟨g, cap, cur, rfl, hg, hh, hc, hm, hs, ht⟩
  · omega
  · refine ⟨g, cap, cur, rfl, hg, hc, by simpa [maxLen] using hm, hh, fun i hi => ?_⟩
    have e := congrArg (fun l => l[i]?) ht
    simp only [Nat.mul_one] at e
    rw [List.getElem?_take_of_lt hi, yL_get _ _ _ hi, Array.getElem?_toList] at e
    exact e
theorem Lo.sz {w : World} {g : Nat} {C : Array Value} {n : Nat} {f : Nat → Nat} (h : Lo C n f) (hb : Blk w g C 5) (hf : ∀ i, i < n → f i < 256) (o m c : Nat) (ho : o + m ≤ n) (hc : m ≤ c) (hc2 : c ≤ 9223372036854775807) : Sz w (.slice (some ⟨g, o, none⟩) m c) m (fun i => f (o + i)) :=
  ⟨_, c, rfl, hc, hc2, fun _ => ⟨g, o, rfl, hb.lt, fun i hi => hf _ (by omega), fun i hi => by rw [hb.cell]; exact h _ (by omega)⟩⟩
theorem Lo.bd {C : Array Value} {n : Nat} {f : Nat → Nat} (hf : ∀ i, i < n → f i < 256) (j x : Nat) (hx : x < 256) : ∀ i, i < n → up f j x i < 256 := fun i hi => by
  unfold up; split
  · exact hx
  · exact hf i hi
end Go.Proofs.Ytachilkhbfpahaa

/- SealOpens: the walk. -/
namespace Go.Proofs.Ytachilkhbfpahaa
open Go.RowKit

theorem box_ca {P : Program} {w : World} {ops : Array Oper} {rest : List Oper} {op : Oper} {a : Act} {Q : Exit → Act → World → Prop} (hgd : op.guard = none) (ty : TypeId) (x : Operand) (ho : op.op = .box ty x) (cs : Array Value) (hx : a.eval x = .agg cs)
    (h : ∀ g w', w.heap.size ≤ g → Blk w' g cs ty → Chg w w' [] → wpList P ops Q rest (a.put op.dst (.pointer (some ⟨g, 0, none⟩))) w') : wpList P ops Q (op :: rest) a w := box_w hgd ty x ho cs (by rw [hx]; rfl) h
set_option maxHeartbeats 16000000 in
set_option maxRecDepth 100000 in
theorem opens_walk (k nn : Nat → Nat) (hk : ∀ i, i < 32 → k i < 256) (hn : ∀ i, i < 12 → nn i < 256) (vO : Value) (n0 : Nat) (f0 : Nat → Nat) (vT : Value) (n1 : Nat) (f1 : Nat → Nat) (vX : Value) (n2 : Nat) (f2 : Nat → Nat) (at' : Int) (hat : -9223372036854775808 ≤ at' ∧ at' < 9223372036854775808) (by' : Nat) (hby : by' < 256) (w : World) (h0 : Sz w vO n0 f0) (h1 : Sz w vT n1 f1) (h2 : Sz w vX n2 f2) (b0 : n0 ≤ 1048576) (b1 : n1 ≤ 1048576) :
    Calls Try.prog 6 #[.agg (caC k nn vO vT vX at' by')] w fun e w' => e = .returned (.bool true) ∧ Chg w w' [] := by
  have HV : Hid ((Sz w vO n0 f0 ∧ Sz w vT n1 f1) ∧ n0 ≤ 1048576 ∧ n1 ≤ 1048576) := ⟨⟨h0, h1⟩, b0, b1⟩
  have HKN : Hid ((∀ i, i < 32 → k i < 256) ∧ (∀ i, i < 12 → nn i < 256)) := ⟨hk, hn⟩
  have HSR : Hid (∀ w' a b, Sz w' a n0 f0 → Sz w' b n1 f1 → Calls Try.prog 23 #[.agg (yC 32 k), .agg (yC 12 nn), a, b] w' fun e w'' => ∃ sv, e = .returned sv ∧ Sz w'' sv (n1 + 16) (sealB k nn n0 f0 n1 f1) ∧ Chg w' w'' []) := fun w' a b x y => Seal_ra k nn hk hn a n0 f0 b n1 f1 w' x y (by omega) (by omega)
  have HZL : Hid (∀ i, i < n1 + 16 → sealB k nn n0 f0 n1 f1 i < 256) := fun i hi => seal_lt h1.bd i hi
  obtain ⟨Z, hZ⟩ : ∃ Z, sealB k nn n0 f0 n1 f1 = Z := ⟨_, rfl⟩
  rw [hZ] at HSR HZL
  have HC1 : Hid (∀ (g : Nat → Nat) w' a b, Sz w' a n0 f0 → Sz w' b (n1 + 16) g → Calls Try.prog 20 #[.agg (yC 32 k), .agg (yC 12 nn), a, b] w' fun e w'' => StA w' (opN k nn n0 f0 (n1 + 16) g) (opE k nn n0 f0 (n1 + 16) g) (xo g (ks k 1 nn)) e w'') := fun g w' a b x y => Open_a k nn hk hn a n0 f0 b (n1 + 16) g w' x y (by omega)
  have HC2 : Hid (∀ (g : Nat → Nat) w' a b, Sz w' a n0 f0 → Sz w' b (n1 + 16) g → Calls Try.prog 21 #[.agg (yC 32 k), .agg (yC 12 nn), a, b] w' fun e w'' => StA w' (opN k nn n0 f0 (n1 + 16) g) (opE k nn n0 f0 (n1 + 16) g) (xo g (ks k 1 nn)) e w'') := fun g w' a b x y => Open_ra k nn hk hn a n0 f0 b (n1 + 16) g w' x y (by omega) (by omega)
  have HC3 : Hid (∀ (g : Nat → Nat) w' a b, Sz w' a n0 f0 → Sz w' b (n1 + 28) g → Calls Try.prog 24 #[.agg (yC 32 k), a, b] w' fun e w'' => UbA w' (ubN (ubC k n0 f0 (n1 + 28) g) (n1 + 28)) (ubM (ubC k n0 f0 (n1 + 28) g) (bxN g)) (ubE (ubC k n0 f0 (n1 + 28) g)) (xo (fun i => g (12 + i)) (ks k 1 g)) e w'') := fun g w' a b x y => Unbox_a k hk a n0 f0 b (n1 + 28) g w' x y (by omega)
  have HC4 : Hid (∀ (g : Nat → Nat) w' a b, Sz w' a n0 f0 → Sz w' b (n1 + 28) g → Calls Try.prog 25 #[.agg (yC 32 k), a, b] w' fun e w'' => UbA w' (ubN (ubC k n0 f0 (n1 + 28) g) (n1 + 28)) (ubM (ubC k n0 f0 (n1 + 28) g) (bxN g)) (ubE (ubC k n0 f0 (n1 + 28) g)) (xo (fun i => g (12 + i)) (ks k 1 g)) e w'') := fun g w' a b x y => Unbox_ra k hk a n0 f0 b (n1 + 28) g w' x y (by omega) (by omega)
  obtain ⟨p0, c0, e0, _⟩ := id h0
  obtain ⟨p1, c1, e1, _⟩ := id h1
  obtain ⟨p2, c2, e2, _⟩ := id h2
  subst e0 e1 e2
  have HAT : Hid ((-9223372036854775808 ≤ at' ∧ at' < 9223372036854775808) ∧ by' < 256) := ⟨hat, hby⟩
  obtain ⟨b0', hb0⟩ : ∃ x, w.heap.size = x := ⟨_, rfl⟩
  have HB0 : Hid (w.heap.size = b0') := hb0
  clear h0 h1 h2 b0 b1 hk hn hZ hat hby hb0
  go_enter Try.func6, Try.ntmps6
  go_wp2_with (first
    | (with_reducible refine box_ca ?_ 66 (.tmp 0) ?_ (caC k nn (.slice p0 n0 c0) (.slice p1 n1 c1) (.slice p2 n2 c2) at' by') ?_ ?_
       · rfl
       · rfl
       · rfl
       intro cb w1 hcb BC k1))
  refine lt_begin (fun w' => Blk w' cb (caC k nn (.slice p0 n0 c0) (.slice p1 n1 c1) (.slice p2 n2 c2) at' by') 66) (fun _ => false) (by kernel_rfl) ?_
  have hHeld := BC.drew
  replace k1 := k1.drew
  obtain ⟨z, hz⟩ : ∃ z, z = w1.drew := ⟨_, rfl⟩
  rw [← hz] at hHeld k1 ⊢
  clear hz BC
  refine lt_val (v := ?_) 0 (some 21) rfl (by kernel_rfl) (by kernel_rfl) (by kernel_rfl) (fun _ _ _ h => h) rfl rfl (fun w => ?_) ?_
  rotate_left
  · (go_simp; try with_reducible rfl)
  try simp only [Act.put, List.setIfInBounds_toArray, List.set_cons_zero, List.set_cons_succ]
  refine lt_read (v := (.agg (yC 32 k))) 1 (some 22) rfl (by kernel_rfl) (by kernel_rfl) (by kernel_rfl) (by kernel_rfl) (fun _ _ _ h => h) rfl rfl (fun w hSw => ?_) hHeld ?_
  · skip; exact (exec_load_m w 23 (.tmp 21) rfl cb 0 rfl (yL 32 k) _ (fun j x hj => by obtain ⟨q1, rfl⟩ := yL_some _ _ _ _ hj; rw [Nat.zero_add, hSw.cell, caC_k _ _ _ _ _ _ _ _ q1]) Try.underlying23 rfl (by rw [yL_len]; exact keyInfo))
  try simp only [Act.put, List.setIfInBounds_toArray, List.set_cons_zero, List.set_cons_succ]
  refine lt_val (v := ?_) 2 (some 23) rfl (by kernel_rfl) (by kernel_rfl) (by kernel_rfl) (fun _ _ _ h => h) rfl rfl (fun w => ?_) ?_
  rotate_left
  · (go_simp; try with_reducible rfl)
  try simp only [Act.put, List.setIfInBounds_toArray, List.set_cons_zero, List.set_cons_succ]
  refine lt_read (v := (.agg (yC 12 nn))) 3 (some 24) rfl (by kernel_rfl) (by kernel_rfl) (by kernel_rfl) (by kernel_rfl) (fun _ _ _ h => h) rfl rfl (fun w hSw => ?_) hHeld ?_
  · skip; exact (exec_load_m w 26 (.tmp 23) rfl cb 32 rfl (yL 12 nn) _ (fun j x hj => by obtain ⟨q1, rfl⟩ := yL_some _ _ _ _ hj; rw [hSw.cell, caC_n _ _ _ _ _ _ _ _ q1]) Try.underlying26 rfl (by rw [yL_len]; exact nonInfo))
  try simp only [Act.put, List.setIfInBounds_toArray, List.set_cons_zero, List.set_cons_succ]
  refine lt_val (v := ?_) 4 (some 25) rfl (by kernel_rfl) (by kernel_rfl) (by kernel_rfl) (fun _ _ _ h => h) rfl rfl (fun w => ?_) ?_
  rotate_left
  · (go_simp; try with_reducible rfl)
  try simp only [Act.put, List.setIfInBounds_toArray, List.set_cons_zero, List.set_cons_succ]
  refine lt_read (v := (.slice p0 n0 c0)) 5 (some 26) rfl (by kernel_rfl) (by kernel_rfl) (by kernel_rfl) (by kernel_rfl) (fun _ _ _ h => h) rfl rfl (fun w hSw => ?_) hHeld ?_
  · have qc := (hSw.cell 44).trans (caC_44 k nn _ _ _ at' by'); (go_simp; try with_reducible rfl)
  try simp only [Act.put, List.setIfInBounds_toArray, List.set_cons_zero, List.set_cons_succ]
  refine lt_val (v := ?_) 6 (some 27) rfl (by kernel_rfl) (by kernel_rfl) (by kernel_rfl) (fun _ _ _ h => h) rfl rfl (fun w => ?_) ?_
  rotate_left
  · (go_simp; try with_reducible rfl)
  try simp only [Act.put, List.setIfInBounds_toArray, List.set_cons_zero, List.set_cons_succ]
  refine lt_read (v := (.slice p1 n1 c1)) 7 (some 28) rfl (by kernel_rfl) (by kernel_rfl) (by kernel_rfl) (by kernel_rfl) (fun _ _ _ h => h) rfl rfl (fun w hSw => ?_) hHeld ?_
  · have qc := (hSw.cell 45).trans (caC_45 k nn _ _ _ at' by'); (go_simp; try with_reducible rfl)
  try simp only [Act.put, List.setIfInBounds_toArray, List.set_cons_zero, List.set_cons_succ]
  refine lt_val (v := ?_) 8 (some 29) rfl (by kernel_rfl) (by kernel_rfl) (by kernel_rfl) (fun _ _ _ h => h) rfl rfl (fun w => ?_) ?_
  rotate_left
  · (go_simp; try with_reducible rfl)
  try simp only [Act.put, List.setIfInBounds_toArray, List.set_cons_zero, List.set_cons_succ]
  refine lt_read (v := (.int .i64 at')) 9 (some 30) rfl (by kernel_rfl) (by kernel_rfl) (by kernel_rfl) (by kernel_rfl) (fun _ _ _ h => h) rfl rfl (fun w hSw => ?_) hHeld ?_
  · have qc := (hSw.cell 47).trans (caC_47 k nn _ _ _ at' by'); (go_simp; try with_reducible rfl)
  try simp only [Act.put, List.setIfInBounds_toArray, List.set_cons_zero, List.set_cons_succ]
  refine lt_val (v := ?_) 10 (some 31) rfl (by kernel_rfl) (by kernel_rfl) (by kernel_rfl) (fun _ _ _ h => h) rfl rfl (fun w => ?_) ?_
  rotate_left
  · (go_simp; try with_reducible rfl)
  try simp only [Act.put, List.setIfInBounds_toArray, List.set_cons_zero, List.set_cons_succ]
  refine lt_read (v := (.int .u8 (by' : Int))) 11 (some 32) rfl (by kernel_rfl) (by kernel_rfl) (by kernel_rfl) (by kernel_rfl) (fun _ _ _ h => h) rfl rfl (fun w hSw => ?_) hHeld ?_
  · have qc := (hSw.cell 48).trans (caC_48 k nn _ _ _ at' by'); (go_simp; try with_reducible rfl)
  try simp only [Act.put, List.setIfInBounds_toArray, List.set_cons_zero, List.set_cons_succ]
  refine lt_two 12 13 rfl rfl (by kernel_rfl) (by kernel_rfl) (by kernel_rfl) rfl rfl (by decide) 23 26 rfl rfl (.agg (yC 32 z0)) (.agg (yC 12 z0)) zeroKey zeroNon (yC 32 z0) (yC 12 z0) rfl rfl 3 4 rfl rfl (by decide) (fun _ _ k h => h.chg k (by simp)) ?_
  intro kb nb w2 hkb hnb hkn BK BN k2
  try simp only [Act.put, List.setIfInBounds_toArray, List.set_cons_zero, List.set_cons_succ]
  refine lt_one 14 rfl (by kernel_rfl) rfl (fun K hK => ?_)
  refine wp_store_w BK 23 _ _ (yC 32 k) rfl rfl rfl (by rw [yC_size]; exact keyInfo) (by rw [yC_size, yC_size]) (yC_one 32 _) ?_
  intro w3 BK3 k3
  change K (Act.put _ none _) _
  have HCB : Hid (¬ cb = kb ∧ ¬ cb = nb) := ⟨by have := hHeld.lt; omega, by have := hHeld.lt; omega⟩
  refine hK.out _ _ (fun _ h => h.chg k3 (by have := HCB.out; simp; omega)) ?_
  clear hK K
  try simp only [Act.put, List.setIfInBounds_toArray, List.set_cons_zero, List.set_cons_succ]
  refine lt_one 15 rfl (by kernel_rfl) rfl (fun K hK => ?_)
  refine wp_store_w (BN.chg k3 (by simp; omega)) 26 _ _ (yC 12 nn) rfl rfl rfl (by rw [yC_size]; exact nonInfo) (by rw [yC_size, yC_size]) (yC_one 12 _) ?_
  intro w4 BN4 k4
  change K (Act.put _ none _) _
  refine hK.out _ _ (fun _ h => h.chg k4 (by have := HCB.out; simp; omega)) ?_
  clear hK K
  try simp only [Act.put, List.setIfInBounds_toArray, List.set_cons_zero, List.set_cons_succ]
  refine lt_val (v := ?_) 16 (some 5) rfl (by kernel_rfl) (by kernel_rfl) (by kernel_rfl) (fun _ _ _ h => h) rfl rfl (fun w => ?_) ?_
  rotate_left
  · (go_simp; try with_reducible rfl)
  try simp only [Act.put, List.setIfInBounds_toArray, List.set_cons_zero, List.set_cons_succ]
  refine lt_val (v := ?_) 17 (some 6) rfl (by kernel_rfl) (by kernel_rfl) (by kernel_rfl) (fun _ _ _ h => h) rfl rfl (fun w => ?_) ?_
  rotate_left
  · (go_simp; try with_reducible rfl)
  try simp only [Act.put, List.setIfInBounds_toArray, List.set_cons_zero, List.set_cons_succ]
  refine lt_val (v := ?_) 18 (some 7) rfl (by kernel_rfl) (by kernel_rfl) (by kernel_rfl) (fun _ _ _ h => h) rfl rfl (fun w => ?_) ?_
  rotate_left
  · (go_simp; try with_reducible rfl)
  try simp only [Act.put, List.setIfInBounds_toArray, List.set_cons_zero, List.set_cons_succ]
  refine lt_val (v := ?_) 19 (some 8) rfl (by kernel_rfl) (by kernel_rfl) (by kernel_rfl) (fun _ _ _ h => h) rfl rfl (fun w => ?_) ?_
  rotate_left
  · (go_simp; try with_reducible rfl)
  try simp only [Act.put, List.setIfInBounds_toArray, List.set_cons_zero, List.set_cons_succ]
  refine lt_done (by kernel_rfl) ?_ _
  have hs1 := k1.size
  have K4 : Chg w w4 [] := ((k1.trans1 k2).new k3 (by omega)).new k4 (by omega)
  have BK4 := BK3.chg k4 (by simp; omega)
  clear k1 k2 k3 k4 BK BN BK3 hHeld hcb hkb hnb hkn hs1 HCB
  go_wp2_with (first
    | (with_reducible refine load_b BK4 23 (.tmp 3) Try.underlying23 ?_ ?_ ?_ ?_ ?_ ?_
       · rfl
       · rfl
       · rfl
       · rfl
       · (rw [yC_size]; exact keyInfo))
    | (with_reducible refine load_b BN4 26 (.tmp 4) Try.underlying26 ?_ ?_ ?_ ?_ ?_ ?_
       · rfl
       · rfl
       · rfl
       · rfl
       · (rw [yC_size]; exact nonInfo)))
  refine (HSR.out w4 _ _ (HV.out.1.1.kept K4) (HV.out.1.2.kept K4)).mono ?_
  rintro e w5 ⟨sz, rfl, SZ5, k5⟩
  have K5 := K4.trans1 k5
  have BK5 := BK4.chg k5 (by simp)
  have BN5 := BN4.chg k5 (by simp)
  clear K4 BK4 BN4 k5
  obtain ⟨pz, cz, ez, _⟩ := id SZ5
  subst ez
  go_upto_region 6 with (first
    | (refine append_zl rfl (.tmp 38) (.tmp 39) rfl b0' (.slice none 0 0) (.slice (some ⟨nb, 0, none⟩) 12 12) 0 12 nn nn rfl rfl (Own.nil _ _ nn) (BN5.szn (fun i hi => HKN.out.2 i hi) (by decide)) (by decide) (by have := HB0.out; have := K5.size; omega) ?_; intro a1 w6 O6 k6; rw [Nat.zero_add, cat_zero] at O6; replace k6 : Chg w5 w6 [] := k6)
    | (refine append_zl rfl (.tmp 41) (.tmp 42) rfl b0' a1 (.slice pz (n1 + 16) cz) 12 (n1 + 16) nn Z rfl rfl O6 (SZ5.kept k6) (by have := HV.out; omega) (by have := HB0.out; have := K5.size; have := k6.size; omega) ?_; intro a2 w7 O7 k7))
  have K7 : Chg w w7 [] := Cb.low (K5.trans1 k6) (O6.cb k7) (by have := HB0.out; omega)
  have BK7 := (BK5.chg k6 (by simp)).chg k7 (O6.nt (BK5.chg k6 (by simp)) (by decide))
  have BN7 := (BN5.chg k6 (by simp)).chg k7 (O6.nt (BN5.chg k6 (by simp)) (by decide))
  obtain ⟨L, hL⟩ : ∃ L, 12 + (n1 + 16) = L := ⟨_, rfl⟩
  have HL : Hid (12 + (n1 + 16) = L ∧ L ≤ 1048604) := ⟨hL, by have := HV.out; omega⟩
  have hYL := O7.2
  rw [hL] at O7 hYL
  obtain ⟨Y, hY⟩ : ∃ Y, cat nn 12 Z = Y := ⟨_, rfl⟩
  rw [hY] at O7 hYL
  have HYL : Hid (∀ i, i < L → Y i < 256) := hYL
  obtain ⟨g, c, C, rfl, hg, hc1, hc2, BB, LO⟩ := O7.lo (by omega)
  have HG : Hid ((b0' ≤ g ∧ L ≤ c ∧ c ≤ 9223372036854775807) ∧ ¬ g = kb ∧ ¬ g = nb) := ⟨⟨hg, hc1, hc2⟩, fun e => BB.ne BK7 (by decide) e, fun e => BB.ne BN7 (by decide) e⟩
  have HLO : Hid (Lo C L Y) := LO
  clear hYL hL hY K5 BK5 BN5 k6 k7 O6 O7 hg hc1 hc2 LO SZ5
  go_cut [56] (fun t56 wc => t56 = .bool (decide (0 ≤ at' ∧ at' < (L : Int))) ∧ Chg w7 wc [])
  case first =>
    have i0 : (0 : Int) < (L : Int) := by have := HL.out; omega
    by_cases q1 : 0 ≤ at'
    · by_cases q2 : at' < (L : Int)
      · go_wp2_with fail
        go_meet
        case rel => exact ⟨by rw [decide_eq_true (p := 0 ≤ at' ∧ at' < (L : Int)) ⟨q1, q2⟩], Chg.refl _ _⟩
      · go_wp2_with fail
        go_meet
        case rel => exact ⟨by rw [decide_eq_false (p := 0 ≤ at' ∧ at' < (L : Int)) (fun h => by omega)], Chg.refl _ _⟩
    · go_wp2_with fail
      go_meet
      case rel => exact ⟨by rw [decide_eq_false (p := 0 ≤ at' ∧ at' < (L : Int)) (fun h => by omega)], Chg.refl _ _⟩
  case rest =>
    obtain ⟨rfl, k8⟩ := hcut
    obtain ⟨w8, rfl⟩ : ∃ z, z = wc := ⟨wc, rfl⟩
    have K8 := K7.trans1 k8
    have BK8 := BK7.chg k8 (by simp)
    have BN8 := BN7.chg k8 (by simp)
    have BB8 := BB.chg k8 (by simp)
    clear K7 BK7 BN7 BB k8
    go_upto_if 56 with fail
    go_cut [10] (fun t10 wc => ∃ (Y' : Nat → Nat) (C' : Array Value), t10 = .slice (some ⟨g, 0, none⟩) L c ∧ (∀ i, i < L → Y' i < 256) ∧ Lo C' L Y' ∧ Blk wc g C' 5 ∧ Blk wc kb (yC 32 k) 23 ∧ Blk wc nb (yC 12 nn) 26 ∧ Chg w wc [])
    case first =>
      by_cases q : 0 ≤ at' ∧ at' < (L : Int)
      · rw [decide_eq_true q]
        obtain ⟨j, rfl⟩ := Int.eq_ofNat_of_zero_le q.1
        have hj : j < L := by omega
        have hI : (j : Int) < (L : Int) := q.2
        have cx := (BB8.cell j).trans (HLO.out j hj)
        have fx := BB8.frozen j
        obtain ⟨y, hy⟩ : ∃ y, Y j = y := ⟨_, rfl⟩
        rw [hy] at cx
        obtain ⟨x, hx⟩ : ∃ x, y ^^^ by' = x := ⟨_, rfl⟩
        have hyb : y < 256 := by rw [← hy]; exact HYL.out j hj
        have hxb : x < 256 := by rw [← hx]; exact Nat.xor_lt_two_pow (n := 8) hyb HAT.out.2
        have ex : bits .xor .u8 (y : Int) (by' : Int) = (x : Int) := by rw [u8_xor_nat _ _ hyb HAT.out.2, hx]
        have b2 := BB8.setCell j (.int .u8 ((x : Nat) : Int))
        have HRR : Hid ((∀ i, i < L → up Y j x i < 256) ∧ Lo (C.setIfInBounds j (.int .u8 ((x : Nat) : Int))) L (up Y j x)) := ⟨Lo.bd (C := C) HYL.out j x hxb, HLO.out.set j x⟩
        have bk2 := BK8.setOther (show ¬ kb = g from fun e => HG.out.2.1 e.symm) j (.int .u8 ((x : Nat) : Int))
        have bn2 := BN8.setOther (show ¬ nb = g from fun e => HG.out.2.2 e.symm) j (.int .u8 ((x : Nat) : Int))
        have K9 := K8.setNew (show w.heap.size ≤ g by have := HB0.out; have := HG.out.1.1; omega) j (.int .u8 ((x : Nat) : Int))
        clear q hy hx hyb hxb hj K8 BK8 BN8 BB8
        go_wp2_with fail
        go_meet
        case rel => exact ⟨_, _, rfl, HRR.out.1, HRR.out.2, b2, bk2, bn2, K9⟩
      · rw [decide_eq_false q]
        clear q
        go_wp2_with fail
        go_meet
        case rel => exact ⟨Y, C, rfl, HYL.out, HLO.out, BB8, BK8, BN8, K8⟩
    case rest =>
      obtain ⟨Y', C', rfl, hyl, hlo, BB9, BK9, BN9, K9⟩ := hcut
      obtain ⟨w9, rfl⟩ : ∃ z, z = wc := ⟨wc, rfl⟩
      have SB : Hid (Sz w9 (.slice (some ⟨g, 12, none⟩) (n1 + 16) (c - 12)) (n1 + 16) (fun i => Y' (12 + i))) := hlo.sz BB9 hyl 12 (n1 + 16) (c - 12) (by have := HL.out; omega) (by have := HL.out; have := HG.out; omega) (by have := HG.out; omega)
      have SBX : Hid (Sz w9 (.slice (some ⟨g, 0, none⟩) L c) (n1 + 28) Y') := by
        have q := hlo.sz BB9 hyl 0 L c (by omega) (by have := HG.out; omega) (by have := HG.out; omega)
        rw [show n1 + 28 = L by have := HL.out; omega]
        exact (by simpa using q : Sz w9 (.slice (some ⟨g, 0, none⟩) L c) L Y')
      have HD1 : Hid (∀ w' a b, Sz w' a n0 f0 → Sz w' b (n1 + 16) (fun i => Y' (12 + i)) → _) := HC1.out (fun i => Y' (12 + i))
      have HD2 : Hid (∀ w' a b, Sz w' a n0 f0 → Sz w' b (n1 + 16) (fun i => Y' (12 + i)) → _) := HC2.out (fun i => Y' (12 + i))
      have HD3 : Hid (∀ w' a b, Sz w' a n0 f0 → Sz w' b (n1 + 28) Y' → _) := HC3.out Y'
      have HD4 : Hid (∀ w' a b, Sz w' a n0 f0 → Sz w' b (n1 + 28) Y' → _) := HC4.out Y'
      obtain ⟨N1, h⟩ : ∃ N, opN k nn n0 f0 (n1 + 16) (fun i => Y' (12 + i)) = N := ⟨_, rfl⟩
      rw [h] at HD1 HD2
      clear h
      obtain ⟨E1, h⟩ : ∃ N, opE k nn n0 f0 (n1 + 16) (fun i => Y' (12 + i)) = N := ⟨_, rfl⟩
      rw [h] at HD1 HD2
      clear h
      obtain ⟨X1, h⟩ : ∃ N, xo (fun i => Y' (12 + i)) (ks k 1 nn) = N := ⟨_, rfl⟩
      rw [h] at HD1 HD2
      clear h
      obtain ⟨N2, h⟩ : ∃ N, ubN (ubC k n0 f0 (n1 + 28) Y') (n1 + 28) = N := ⟨_, rfl⟩
      rw [h] at HD3 HD4
      clear h
      obtain ⟨M2, h⟩ : ∃ N, ubM (ubC k n0 f0 (n1 + 28) Y') (bxN Y') = N := ⟨_, rfl⟩
      rw [h] at HD3 HD4
      clear h
      obtain ⟨E2, h⟩ : ∃ N, ubE (ubC k n0 f0 (n1 + 28) Y') = N := ⟨_, rfl⟩
      rw [h] at HD3 HD4
      clear h
      obtain ⟨X2, h⟩ : ∃ N, xo (fun i => Y' (12 + i)) (ks k 1 Y') = N := ⟨_, rfl⟩
      rw [h] at HD3 HD4
      clear h
      have i12 : (12 : Int) ≤ (L : Int) := by have := HL.out; omega
      have iLc : (L : Int) ≤ (c : Int) := by have := HG.out; omega
      have i12c : ¬ c = 12 := by have := HG.out; have := HL.out; omega
      have eL : L - 12 = n1 + 16 := by have := HL.out; omega
      clear hyl hlo BB9 HC1 HC2 HC3 HC4 HYL HLO
      go_wp2_with fail
      refine lt_begin (fun w' => Blk w' kb (yC 32 k) 23 ∧ Blk w' nb (yC 12 nn) 26) (fun _ => false) (by kernel_rfl) ?_
      have hHeld := And.intro BK9.drew BN9.drew
      have KZ8 : Chg w9 w9.drew [] := (Chg.refl w9 []).drew
      obtain ⟨z8, hz⟩ : ∃ z, z = w9.drew := ⟨_, rfl⟩
      rw [← hz] at hHeld KZ8 ⊢
      clear hz BK9 BN9
      refine lt_read (v := (.agg (yC 32 k))) 0 (some 67) rfl (by kernel_rfl) (by kernel_rfl) (by kernel_rfl) (by kernel_rfl) (fun _ _ _ h => h) rfl rfl (fun w hSw => ?_) hHeld ?_
      · skip; exact (exec_load_b w 23 (.tmp 3) rfl kb rfl hSw.1 Try.underlying23 rfl (by rw [yC_size]; exact keyInfo))
      try simp only [Act.put, List.setIfInBounds_toArray, List.set_cons_zero, List.set_cons_succ]
      refine lt_read (v := (.agg (yC 12 nn))) 1 (some 68) rfl (by kernel_rfl) (by kernel_rfl) (by kernel_rfl) (by kernel_rfl) (fun _ _ _ h => h) rfl rfl (fun w hSw => ?_) hHeld ?_
      · skip; exact (exec_load_b w 26 (.tmp 4) rfl nb rfl hSw.2 Try.underlying26 rfl (by rw [yC_size]; exact nonInfo))
      try simp only [Act.put, List.setIfInBounds_toArray, List.set_cons_zero, List.set_cons_succ]
      refine lt_val (v := ?_) 2 (some 69) rfl (by kernel_rfl) (by kernel_rfl) (by kernel_rfl) (fun _ _ _ h => h) rfl rfl (fun w => ?_) ?_
      rotate_left
      · (go_simp; try with_reducible rfl)
      try simp only [Act.put, List.setIfInBounds_toArray, List.set_cons_zero, List.set_cons_succ]
      refine lt_val (v := ?_) 3 (some 70) rfl (by kernel_rfl) (by kernel_rfl) (by kernel_rfl) (fun _ _ _ h => h) rfl rfl (fun w => ?_) ?_
      rotate_left
      · (go_simp; try with_reducible rfl)
      try simp only [Act.put, List.setIfInBounds_toArray, List.set_cons_zero, List.set_cons_succ]
      refine lt_val (v := (.slice (some ⟨g, 12, none⟩) (n1 + 16) (c - 12))) 4 (some 71) rfl (by kernel_rfl) (by kernel_rfl) (by kernel_rfl) (fun _ _ _ h => h) rfl rfl (fun w => ?_) ?_
      · (go_simp; try with_reducible rfl)
      try simp only [Act.put, List.setIfInBounds_toArray, List.set_cons_zero, List.set_cons_succ]
      refine lt_one 5 rfl (by kernel_rfl) rfl (fun K hK => ?_)
      go_simp
      refine (HD1.out z8 _ _ (HV.out.1.1.kept (K9.trans1 KZ8)) (SB.out.kept KZ8)).mono ?_
      rintro e w8x ⟨s1, rfl, S1, k8⟩
      go_wp2_with fail
      refine hK.out _ _ (fun _ h => ⟨h.1.chg k8 (by simp), h.2.chg k8 (by simp)⟩) ?_
      clear hK K
      try simp only [Act.put, List.setIfInBounds_toArray, List.set_cons_zero, List.set_cons_succ]
      refine lt_val (v := ?_) 6 (some 66) rfl (by kernel_rfl) (by kernel_rfl) (by kernel_rfl) (fun _ _ _ h => h) rfl rfl (fun w => ?_) ?_
      rotate_left
      · (go_simp; try with_reducible rfl)
      try simp only [Act.put, List.setIfInBounds_toArray, List.set_cons_zero, List.set_cons_succ]
      refine lt_val (v := ?_) 7 (some 73) rfl (by kernel_rfl) (by kernel_rfl) (by kernel_rfl) (fun _ _ _ h => h) rfl rfl (fun w => ?_) ?_
      rotate_left
      · (go_simp; try with_reducible rfl)
      try simp only [Act.put, List.setIfInBounds_toArray, List.set_cons_zero, List.set_cons_succ]
      refine lt_val (v := ?_) 8 (some 74) rfl (by kernel_rfl) (by kernel_rfl) (by kernel_rfl) (fun _ _ _ h => h) rfl rfl (fun w => ?_) ?_
      rotate_left
      · (go_simp; try with_reducible rfl)
      try simp only [Act.put, List.setIfInBounds_toArray, List.set_cons_zero, List.set_cons_succ]
      refine lt_val (v := ?_) 9 (some 11) rfl (by kernel_rfl) (by kernel_rfl) (by kernel_rfl) (fun _ _ _ h => h) rfl rfl (fun w => ?_) ?_
      rotate_left
      · (go_simp; try with_reducible rfl)
      try simp only [Act.put, List.setIfInBounds_toArray, List.set_cons_zero, List.set_cons_succ]
      refine lt_val (v := ?_) 10 (some 12) rfl (by kernel_rfl) (by kernel_rfl) (by kernel_rfl) (fun _ _ _ h => h) rfl rfl (fun w => ?_) ?_
      rotate_left
      · (go_simp; try with_reducible rfl)
      try simp only [Act.put, List.setIfInBounds_toArray, List.set_cons_zero, List.set_cons_succ]
      refine lt_done (by kernel_rfl) ?_ _
      have BK8x := hHeld.1.chg k8 (by simp)
      have BN8x := hHeld.2.chg k8 (by simp)
      have K8x := (K9.trans1 KZ8).trans1 k8
      have P8x : Chg w9 w8x [] := KZ8.trans1 k8
      have Q8x : Chg w9 w8x [] := KZ8.trans1 k8
      clear hHeld k8
      go_wp2_with fail
      refine lt_begin (fun w' => Blk w' kb (yC 32 k) 23 ∧ Blk w' nb (yC 12 nn) 26) (fun _ => false) (by kernel_rfl) ?_
      have hHeld := And.intro BK8x.drew BN8x.drew
      have KZ9 : Chg w8x w8x.drew [] := (Chg.refl w8x []).drew
      obtain ⟨z9, hz⟩ : ∃ z, z = w8x.drew := ⟨_, rfl⟩
      rw [← hz] at hHeld KZ9 ⊢
      clear hz BK8x BN8x
      refine lt_read (v := (.agg (yC 32 k))) 0 (some 76) rfl (by kernel_rfl) (by kernel_rfl) (by kernel_rfl) (by kernel_rfl) (fun _ _ _ h => h) rfl rfl (fun w hSw => ?_) hHeld ?_
      · skip; exact (exec_load_b w 23 (.tmp 3) rfl kb rfl hSw.1 Try.underlying23 rfl (by rw [yC_size]; exact keyInfo))
      try simp only [Act.put, List.setIfInBounds_toArray, List.set_cons_zero, List.set_cons_succ]
      refine lt_read (v := (.agg (yC 12 nn))) 1 (some 77) rfl (by kernel_rfl) (by kernel_rfl) (by kernel_rfl) (by kernel_rfl) (fun _ _ _ h => h) rfl rfl (fun w hSw => ?_) hHeld ?_
      · skip; exact (exec_load_b w 26 (.tmp 4) rfl nb rfl hSw.2 Try.underlying26 rfl (by rw [yC_size]; exact nonInfo))
      try simp only [Act.put, List.setIfInBounds_toArray, List.set_cons_zero, List.set_cons_succ]
      refine lt_val (v := ?_) 2 (some 78) rfl (by kernel_rfl) (by kernel_rfl) (by kernel_rfl) (fun _ _ _ h => h) rfl rfl (fun w => ?_) ?_
      rotate_left
      · (go_simp; try with_reducible rfl)
      try simp only [Act.put, List.setIfInBounds_toArray, List.set_cons_zero, List.set_cons_succ]
      refine lt_val (v := ?_) 3 (some 79) rfl (by kernel_rfl) (by kernel_rfl) (by kernel_rfl) (fun _ _ _ h => h) rfl rfl (fun w => ?_) ?_
      rotate_left
      · (go_simp; try with_reducible rfl)
      try simp only [Act.put, List.setIfInBounds_toArray, List.set_cons_zero, List.set_cons_succ]
      refine lt_val (v := (.slice (some ⟨g, 12, none⟩) (n1 + 16) (c - 12))) 4 (some 80) rfl (by kernel_rfl) (by kernel_rfl) (by kernel_rfl) (fun _ _ _ h => h) rfl rfl (fun w => ?_) ?_
      · (go_simp; try with_reducible rfl)
      try simp only [Act.put, List.setIfInBounds_toArray, List.set_cons_zero, List.set_cons_succ]
      refine lt_one 5 rfl (by kernel_rfl) rfl (fun K hK => ?_)
      go_simp
      refine (HD2.out z9 _ _ (HV.out.1.1.kept (K8x.trans1 KZ9)) (SB.out.kept (P8x.trans1 KZ9))).mono ?_
      rintro e w9x ⟨s2, rfl, S2, k9⟩
      go_wp2_with fail
      refine hK.out _ _ (fun _ h => ⟨h.1.chg k9 (by simp), h.2.chg k9 (by simp)⟩) ?_
      clear hK K
      try simp only [Act.put, List.setIfInBounds_toArray, List.set_cons_zero, List.set_cons_succ]
      refine lt_val (v := ?_) 6 (some 75) rfl (by kernel_rfl) (by kernel_rfl) (by kernel_rfl) (fun _ _ _ h => h) rfl rfl (fun w => ?_) ?_
      rotate_left
      · (go_simp; try with_reducible rfl)
      try simp only [Act.put, List.setIfInBounds_toArray, List.set_cons_zero, List.set_cons_succ]
      refine lt_val (v := ?_) 7 (some 82) rfl (by kernel_rfl) (by kernel_rfl) (by kernel_rfl) (fun _ _ _ h => h) rfl rfl (fun w => ?_) ?_
      rotate_left
      · (go_simp; try with_reducible rfl)
      try simp only [Act.put, List.setIfInBounds_toArray, List.set_cons_zero, List.set_cons_succ]
      refine lt_val (v := ?_) 8 (some 83) rfl (by kernel_rfl) (by kernel_rfl) (by kernel_rfl) (fun _ _ _ h => h) rfl rfl (fun w => ?_) ?_
      rotate_left
      · (go_simp; try with_reducible rfl)
      try simp only [Act.put, List.setIfInBounds_toArray, List.set_cons_zero, List.set_cons_succ]
      refine lt_val (v := ?_) 9 (some 13) rfl (by kernel_rfl) (by kernel_rfl) (by kernel_rfl) (fun _ _ _ h => h) rfl rfl (fun w => ?_) ?_
      rotate_left
      · (go_simp; try with_reducible rfl)
      try simp only [Act.put, List.setIfInBounds_toArray, List.set_cons_zero, List.set_cons_succ]
      refine lt_val (v := ?_) 10 (some 14) rfl (by kernel_rfl) (by kernel_rfl) (by kernel_rfl) (fun _ _ _ h => h) rfl rfl (fun w => ?_) ?_
      rotate_left
      · (go_simp; try with_reducible rfl)
      try simp only [Act.put, List.setIfInBounds_toArray, List.set_cons_zero, List.set_cons_succ]
      refine lt_done (by kernel_rfl) ?_ _
      have BK9x := hHeld.1.chg k9 (by simp)
      have BN9x := hHeld.2.chg k9 (by simp)
      have K9x := (K8x.trans1 KZ9).trans1 k9
      have P9x : Chg w9 w9x [] := (P8x.trans1 KZ9).trans1 k9
      have Q9x : Chg w8x w9x [] := KZ9.trans1 k9
      clear hHeld k9
      have S1b := S1.kept Q9x
      clear S1 Q8x Q9x K8x P8x
      go_wp2_with (first
    | (with_reducible refine load_b BK9x 23 (.tmp 3) Try.underlying23 ?_ ?_ ?_ ?_ ?_ ?_
       · rfl
       · rfl
       · rfl
       · rfl
       · (rw [yC_size]; exact keyInfo)))
      refine (HD3.out w9x _ _ (HV.out.1.1.kept K9x) (SBX.out.kept P9x)).mono ?_
      rintro e wA ⟨s3, rfl, S3, kA⟩
      have BKA := BK9x.chg kA (by simp)
      have KA := K9x.trans1 kA
      have PA := P9x.trans1 kA
      have S1c := S1b.kept kA
      have S2c := S2.kept kA
      clear BK9x BN9x K9x P9x S1b S2 kA
      go_wp2_with (first
    | (with_reducible refine load_b BKA 23 (.tmp 3) Try.underlying23 ?_ ?_ ?_ ?_ ?_ ?_
       · rfl
       · rfl
       · rfl
       · rfl
       · (rw [yC_size]; exact keyInfo)))
      refine (HD4.out wA _ _ (HV.out.1.1.kept KA) (SBX.out.kept PA)).mono ?_
      rintro e wB ⟨s4, rfl, S4, kB⟩
      have KB := KA.trans1 kB
      have S1d := S1c.kept kB
      have S2d := S2c.kept kB
      have S3d := S3.kept kB
      clear BKA KA PA S1c S2c S3 kB
      go_wp2_with fail
      refine (SameBytes_z s1 N1 X1 s2 N1 X1 wB S1d S2d).mono ?_
      rw [sameB_self (fun _ _ => rfl)]
      rintro e wC ⟨rfl, kC⟩
      have KC := KB.trans1 kC
      have S3e := S3d.kept kC
      have S4e := S4.kept kC
      clear KB S1d S2d S3d S4 kC
      go_wp2_with fail
      refine (num_s E1 wC).mono ?_
      rintro e wD ⟨rfl, rfl⟩
      go_wp2_with fail
      refine (SameBytes_z s3 N2 X2 s4 N2 X2 _ S3e S4e).mono ?_
      rw [sameB_self (fun _ _ => rfl)]
      rintro e wE ⟨rfl, kE⟩
      have KE := KC.trans1 kE
      clear KC S3e S4e kE
      go_wp2_with fail
      refine (num_s E2 wE).mono ?_
      rintro e wF ⟨rfl, rfl⟩
      go_wp2_with fail
      refine (works_s _).mono ?_
      rintro e wG ⟨rfl, kG⟩
      go_wp2_with fail
      go_ret
      exact ⟨rfl, KE.trans1 kG⟩
end Go.Proofs.Ytachilkhbfpahaa

/- What comes in: arrays of bytes, a []byte, a [][]byte; the bounds on them. -/
set_option linter.constructorNameAsVariable false
namespace Go.Proofs.Ytachilkhbfpahaa
open Go.ChangeShapes Go.WideShapes Go.ChangeAt Go.RowKit Go.Deep

theorem own : ownKnob Try.prog.godebug = none := by kernel_rfl
theorem laidOut : laidOutB Try.prog = true := by kernel_rfl
theorem u8Cells : Try.prog.cellsOf 5 = 1 := by kernel_rfl
theorem u8Bytes : Try.prog.bytesOf 5 = 1 := by kernel_rfl
theorem bytesC1 : Try.prog.cellsOf 27 = 1 := by kernel_rfl
theorem keyCells : Try.prog.cellsOf 23 = 32 := by kernel_rfl
theorem nonCells : Try.prog.cellsOf 26 = 12 := by kernel_rfl
theorem u8_wf {n : Int} (h : (Lit.int .u8 n).wf = true) : 0 ≤ n ∧ n < 256 := by
  have := bounds_u8 h
  omega
theorem u64_wf {n : Int} (h : (Lit.int .u64 n).wf = true) : 0 ≤ n ∧ n < 18446744073709551616 := by
  have := bounds_u64 h
  omega
theorem shape_lt {w : World} {b : Nat} {x : TypeId × Nat} (h : w.shape? b = some x) : b < w.heap.size := by
  unfold World.shape? at h
  by_cases hb : b < w.heap.size
  · exact hb
  · rw [Array.getElem?_eq_none (by omega)] at h
    simp at h
theorem cell_plain {w : World} {g o : Nat} {s : Option Nat} {v : Value} (h : w.cell? ⟨g, o, s⟩ = some v) : s = none ∧ g < w.heap.size := by
  unfold World.cell? at h
  by_cases hb : g < w.heap.size
  · refine ⟨?_, hb⟩
    cases s with
    | none => rfl
    | some x =>
      exfalso
      revert h
      split <;> simp
  · rw [Array.getElem?_eq_none (by simpa using Nat.le_of_not_lt hb)] at h
    simp at h
theorem take_at {cs : List Value} {i : Nat} {v : Value} (e1 : ((cs.drop i).take 1) = [v]) : cs[i]? = some v := by
  have e2 := congrArg (fun l => l[0]?) e1
  simp only [List.getElem?_take, List.getElem?_drop] at e2
  simpa using e2
/-- What is read counts one at least. -/
theorem bulk_pos {H : Type} (d : DataW H) : 1 ≤ Rows.uptoBulk d := by
  cases d with
  | lit l => cases l <;> simp [Rows.uptoBulk]
  | nil => simp [Rows.uptoBulk]
  | ptr d => simp [Rows.uptoBulk]
  | slice x y => simp [Rows.uptoBulk]
  | agg x => simp [Rows.uptoBulk]
  | iface t d => simp [Rows.uptoBulk]
  | map x => simp [Rows.uptoBulk]
  | held h => simp [Rows.uptoBulk]
theorem bulk_join {H : Type} (l : List (DataW H)) : ∀ r, Rows.uptoBulkAll (l ++ r) = Rows.uptoBulkAll l + Rows.uptoBulkAll r := by
  induction l with
  | nil => intro r; simp [Rows.uptoBulkAll]
  | cons x l ih => intro r; simp only [List.cons_append, Rows.uptoBulkAll, ih r]; omega
theorem len_bulk {H : Type} : ∀ l : List (DataW H), l.length ≤ Rows.uptoBulkAll l
  | [] => Nat.zero_le _
  | x :: l => by
    have h1 := len_bulk l
    have h2 := bulk_pos x
    simp only [List.length_cons, Rows.uptoBulkAll]
    omega
/-- An array's bytes. -/
theorem arr_cells {H : Type} {enc : TypeId × Value → H} {w : World} {base fuel : Nat} {spare : Nat → Bool} {held : Bool} {t : TypeId} {n : Nat} {cs : List Value} {x : DataW H × List MemPlace} (hu : Try.prog.underlying t = some (.array n 5))
    (hf : DataW.trod enc Try.prog w base spare held fuel t cs = some x) : ∃ f : Nat → Nat, ∀ i, i < n → f i < 256 ∧ cs[i]? = some (.int .u8 (f i)) := by
  obtain ⟨xs, m, _, _, _, hlen, hall⟩ := DataW.trod_array hu hf
  have hb : ∀ i, i < n → ∃ b : Nat, b < 256 ∧ cs[i]? = some (.int .u8 (b : Int)) := fun i hi => by
    have h1 := hall i hi
    rw [List.getElem?_eq_getElem (by omega), u8Cells, Nat.mul_one] at h1
    obtain ⟨z, e1, _, wf⟩ := DataW.trod_int Try.underlying5 h1
    have u := u8_wf wf
    obtain ⟨b, rfl⟩ := Int.eq_ofNat_of_zero_le u.1
    exact ⟨b, by omega, take_at e1⟩
  exact choose_lt hb
theorem open_arr {H : Type} {enc : TypeId × Value → H} {w : World} {r : Reach} {b0 base : Nat} {spare : Nat → Bool} {held : Bool} {t : TypeId} {n : Nat} {v : Value} {d : DataW H} {p : List MemPlace} (hu : Try.prog.underlying t = some (.array n 5)) (hn : Try.prog.cellsOf t = n)
    (hv : Value.okWide Try.prog w r b0 t v) (h : DataW.Trod enc Try.prog w base spare held t v d p) : ∃ f : Nat → Nat, (∀ i, i < n → f i < 256) ∧ v = .agg (yC n f) := by
  simp only [Value.okWide, hu] at hv
  obtain ⟨cs, rfl, hsz, _⟩ := hv
  rw [hn] at hsz
  obtain ⟨fuel, hf⟩ := h
  obtain ⟨f, hf⟩ := arr_cells hu hf
  refine ⟨f, fun i hi => (hf i hi).1, congrArg Value.agg ?_⟩
  apply Array.ext_getElem?
  intro i
  by_cases hi : i < n
  · rw [yC_get n f i hi]
    have := (hf i hi).2
    simpa [Value.cells] using this
  · rw [Array.getElem?_eq_none (by omega), Array.getElem?_eq_none (by rw [yC_size]; omega)]
set_option maxRecDepth 100000 in
/-- A []byte that is read. -/
theorem open_part {H : Type} {enc : TypeId × Value → H} {w : World} {base fuel : Nat} {held : Bool} {v : Value} {d : DataW H} {p : List MemPlace}
    (hf : DataW.trod enc Try.prog w base (fun _ => true) held fuel 27 [v] = some (d, p)) : ∃ n f, Sz w v n f ∧ n ≤ Rows.uptoBulk d ∧ (n = 0 ∨ ∃ es ss, d = .slice es ss ∧ es.length = n) := by
  rcases open_slice1 Try.underlying27 u8Cells hf with ⟨h0, _⟩ | ⟨a, len, cap, m, n, V, D, Pl, h0, _, hl, hc, hm, hd, hx⟩
  · have e : v = .slice none 0 0 := by simpa using h0
    exact ⟨0, fun _ => 0, ⟨none, 0, e, by omega, by omega, fun h => by omega⟩, Nat.zero_le _, Or.inl rfl⟩
  · have e : v = .slice (some a) len cap := by simpa using h0
    have hm2 : m = cap := by rw [hm]; simp
    subst hm2
    have ed : d = .slice ((List.range len).map D) ((List.range (m - len)).map fun j => D (len + j)) := (Prod.mk.inj hd).1
    have hb : len ≤ Rows.uptoBulk d := by
      rw [ed]
      have := len_bulk ((List.range len).map D)
      simp only [List.length_map, List.length_range] at this
      simp only [Rows.uptoBulk]
      omega
    refine ⟨len, fun i => (intOf (V i)).toNat, ⟨some a, m, e, hl, by simpa [maxLen] using hc, fun h0 => ?_⟩, hb, Or.inr ⟨_, _, ed, by simp⟩⟩
    obtain ⟨g, o, s⟩ := a
    obtain ⟨c0, _⟩ := hx 0 (by omega)
    rw [show Addr.add ⟨g, o, s⟩ 0 = ⟨g, o, s⟩ from by simp [Addr.add]] at c0
    obtain ⟨rfl, hlt⟩ := cell_plain c0
    refine ⟨g, o, rfl, hlt, fun i hi => ?_, fun i hi => ?_⟩
    · obtain ⟨_, h2⟩ := hx i (by omega)
      obtain ⟨k, e1, _, wf⟩ := DataW.trod_int Try.underlying5 h2
      have u := u8_wf wf
      have e2 : V i = .int .u8 k := by simpa using e1
      rw [e2]
      simp only [intOf]
      omega
    · obtain ⟨h1, h2⟩ := hx i (by omega)
      obtain ⟨k, e1, _, wf⟩ := DataW.trod_int Try.underlying5 h2
      have u := u8_wf wf
      have e2 : V i = .int .u8 k := by simpa using e1
      have ha : (Addr.add ⟨g, o, none⟩ i) = ⟨g, o + i, none⟩ := Addr.add_mid g o i
      rw [ha] at h1
      rw [h1, e2]
      simp only [intOf]
      congr 2
      omega
set_option maxRecDepth 100000 in
theorem open_sz {H : Type} {enc : TypeId × Value → H} {w : World} {r : Reach} {b0 base : Nat} {held : Bool} {v : Value} {d : DataW H} {p : List MemPlace}
    (hv : Value.okWide Try.prog w r b0 27 v) (h : DataW.Trod enc Try.prog w base (fun _ => true) held 27 v d p) : ∃ n f, Sz w v n f ∧ n ≤ Rows.uptoBulk d ∧ (n = 0 ∨ ∃ es ss, d = .slice es ss ∧ es.length = n) := by
  obtain ⟨fuel, hf⟩ := h
  obtain ⟨a0, l0, c0, rfl⟩ := okWide_slice Try.underlying27 hv
  exact open_part hf
theorem all_mem {H : Type} (P : Program) (e : TypeId) (x : Nat) : ∀ (l : List (DataW H)) (i : Nat) (d : DataW H), l[i]? = some d → x ∈ d.weights P e → x ∈ DataW.weightsAll P e l
  | [], i, d, h, _ => by simp at h
  | a :: l, 0, d, h, hx => by
    simp at h
    subst h
    simp [DataW.weightsAll, hx]
  | a :: l, i + 1, d, h, hx => by
    simp at h
    simp [DataW.weightsAll, all_mem P e x l i d h hx]
/-- Each part of a list that came in is no longer than what a list may be. -/
theorem sized_part {H : Type} {ts : List TypeId} {ds : List (DataW H)} (h : (DataW.weightsEach Try.prog ts ds).all (· ≤ reachBytes) = true) {j : Nat} {elems spare : List (DataW H)} (ht : ts[j]? = some 28) (hd : ds[j]? = some (.slice elems spare)) {i : Nat} {es ss : List (DataW H)} (hi : elems[i]? = some (.slice es ss)) :
    es.length ≤ 140737488351232 := by
  have hm : (es.length + ss.length) * Try.prog.bytesOf 5 ∈ DataW.weights Try.prog 28 (.slice elems spare : DataW H) := by
    have q := all_mem Try.prog 27 ((es.length + ss.length) * Try.prog.bytesOf 5) elems i _ hi (by simp [DataW.weights, Try.underlying27])
    simp [DataW.weights, Try.underlying28, q]
  have := List.all_eq_true.1 h _ (DataW.weights_mem_each ht hd _ hm)
  rw [u8Bytes] at this
  simp [reachBytes] at this
  omega
set_option maxRecDepth 100000 in
/-- A [][]byte that came in. -/
theorem open_txs {H : Type} {enc : TypeId × Value → H} {w : World} {r : Reach} {b0 base : Nat} {held : Bool} {v : Value} {d : DataW H} {p : List MemPlace} {ts : List TypeId} {ds : List (DataW H)} {j : Nat} (hz : (DataW.weightsEach Try.prog ts ds).all (· ≤ reachBytes) = true) (hj : ts[j]? = some 28) (hdj : ds[j]? = some d)
    (hv : Value.okWide Try.prog w r b0 28 v) (h : DataW.Trod enc Try.prog w base (fun _ => true) held 28 v d p) :
    ∃ k pv pn pf, Tx w v k pv pn pf := by
  obtain ⟨fuel, hf⟩ := h
  obtain ⟨a0, l0, c0, rfl⟩ := okWide_slice Try.underlying28 hv
  rcases open_slice1 Try.underlying28 bytesC1 hf with ⟨h0, _⟩ | ⟨a, len, cap, m, n, V, D, Pl, h0, _, hl, hc, hm, hd, hx⟩
  · refine ⟨0, fun _ => .slice none 0 0, fun _ => 0, fun _ _ => 0, none, 0, ?_, by omega, fun h => by omega, fun i hi => absurd hi (Nat.not_lt_zero _)⟩
    simpa [Value.cells] using h0
  · have h0' : Value.slice a0 l0 c0 = .slice (some a) len cap := by simpa [Value.cells] using h0
    rw [h0'] at hv ⊢
    simp only [Value.okWide, Try.underlying28, Cell.okWide, Cell.ok, World.has] at hv
    obtain ⟨_, _, _, hs, row, cells, hsh, _⟩ := hv
    have hlt := shape_lt hsh
    obtain ⟨g, o, spot⟩ := a
    simp only at hs
    subst hs
    have hml : len ≤ m := by rw [hm]; split <;> omega
    have hcap : cap ≤ 9223372036854775807 := by simpa [maxLen] using hc
    have ed : d = .slice ((List.range len).map D) ((List.range (m - len)).map fun j => D (len + j)) := (Prod.mk.inj hd).1
    rw [ed] at hdj
    obtain ⟨q, hq⟩ := choose_lt (α := Nat × (Nat → Nat)) (n := len) (p := fun i x => Sz w (V i) x.1 x.2 ∧ x.1 ≤ 140737488351232) (fun i hi => by
      obtain ⟨n', f', h1, _, h2⟩ := open_part (hx i (by omega)).2
      refine ⟨(n', f'), h1, ?_⟩
      rcases h2 with rfl | ⟨es, ss, h3, rfl⟩
      · exact Nat.zero_le _
      · exact sized_part hz hj hdj (i := i) (es := es) (ss := ss) (by simp [hi, h3]))
    refine ⟨len, V, fun i => (q i).1, fun i => (q i).2, _, cap, rfl, by omega, fun _ => ⟨g, o, rfl, hlt, fun i hi => ?_⟩, fun i hi => hq i hi⟩
    have h1 := (hx i (by omega)).1
    rw [show (Addr.add ⟨g, o, none⟩ i) = ⟨g, o + i, none⟩ from Addr.add_mid g o i] at h1
    exact h1
end Go.Proofs.Ytachilkhbfpahaa

/- A case that came in. -/
set_option linter.constructorNameAsVariable false
namespace Go.Proofs.Ytachilkhbfpahaa
open Go.ChangeShapes Go.WideShapes Go.ChangeAt Go.RowKit Go.Deep

theorem caseCells : Try.prog.cellsOf 66 = 49 := by kernel_rfl
theorem intC1 : Try.prog.cellsOf 3 = 1 := by kernel_rfl
theorem one_at (cs : List Value) (i : Nat) (h : i < cs.length) : (cs.drop i).take 1 = [cs[i]] := by
  rw [List.drop_eq_getElem_cons h]
  rfl
set_option maxRecDepth 100000 in
theorem open_case {H : Type} {enc : TypeId × Value → H} {w : World} {r : Reach} {b0 base : Nat} {held : Bool} {v : Value} {d : DataW H} {p : List MemPlace}
    (hv : Value.okWide Try.prog w r b0 66 v) (h : DataW.Trod enc Try.prog w base (fun _ => true) held 66 v d p) :
    ∃ (k nn : Nat → Nat) (vO vT vX : Value) (at' : Int) (by' : Nat) (n0 : Nat) (f0 : Nat → Nat) (n1 : Nat) (f1 : Nat → Nat) (n2 : Nat) (f2 : Nat → Nat), v = .agg (caC k nn vO vT vX at' by') ∧ ((∀ i, i < 32 → k i < 256) ∧ (∀ i, i < 12 → nn i < 256) ∧ by' < 256 ∧ (Lit.int .i64 at').wf = true) ∧
      (Sz w vO n0 f0 ∧ Sz w vT n1 f1 ∧ Sz w vX n2 f2) ∧ n0 + n1 + n2 ≤ Rows.uptoBulk d := by
  simp only [Value.okWide, Try.underlying66] at hv
  obtain ⟨C, rfl, hsz, _⟩ := hv
  rw [caseCells] at hsz
  obtain ⟨fuel, hf⟩ := h
  obtain ⟨xs, m, _, hx, _, hlen, hall⟩ := DataW.trod_struct Try.underlying66 hf
  obtain ⟨cs, hcs⟩ : ∃ cs, (Value.agg C).cells.toList = cs := ⟨_, rfl⟩
  have hC : C.toList = cs := hcs
  rw [hcs] at hall
  have hl : cs.length = 49 := by rw [← hC]; simpa using hsz
  match xs, hlen with
  | [y0, y1, y2, y3, y4, y5, y6], _ =>
    have a0 : DataW.trod enc Try.prog w base (fun _ => true) held m 23 ((cs.drop 0).take (Try.prog.cellsOf 23)) = some y0 := hall 0 _ rfl
    rw [keyCells] at a0
    have a1 : DataW.trod enc Try.prog w base (fun _ => true) held m 26 ((cs.drop 32).take (Try.prog.cellsOf 26)) = some y1 := hall 1 _ rfl
    rw [nonCells] at a1
    have a2 : DataW.trod enc Try.prog w base (fun _ => true) held m 27 ((cs.drop 44).take (Try.prog.cellsOf 27)) = some y2 := hall 2 _ rfl
    rw [bytesC1] at a2
    have a3 : DataW.trod enc Try.prog w base (fun _ => true) held m 27 ((cs.drop 45).take (Try.prog.cellsOf 27)) = some y3 := hall 3 _ rfl
    rw [bytesC1] at a3
    have a4 : DataW.trod enc Try.prog w base (fun _ => true) held m 27 ((cs.drop 46).take (Try.prog.cellsOf 27)) = some y4 := hall 4 _ rfl
    rw [bytesC1] at a4
    have a5 : DataW.trod enc Try.prog w base (fun _ => true) held m 3 ((cs.drop 47).take (Try.prog.cellsOf 3)) = some y5 := hall 5 _ rfl
    rw [intC1] at a5
    have a6 : DataW.trod enc Try.prog w base (fun _ => true) held m 5 ((cs.drop 48).take (Try.prog.cellsOf 5)) = some y6 := hall 6 _ rfl
    rw [u8Cells] at a6
    obtain ⟨k, hk⟩ := arr_cells Try.underlying23 a0
    obtain ⟨nn, hn⟩ := arr_cells Try.underlying26 a1
    rw [one_at cs _ (by omega)] at a2
    rw [one_at cs _ (by omega)] at a3
    rw [one_at cs _ (by omega)] at a4
    obtain ⟨n0, f0, s0, q0, _⟩ := open_part (d := y2.1) (p := y2.2) a2
    obtain ⟨n1, f1, s1, q1, _⟩ := open_part (d := y3.1) (p := y3.2) a3
    obtain ⟨n2, f2, s2, q2, _⟩ := open_part (d := y4.1) (p := y4.2) a4
    obtain ⟨z5, e5, _, wf5⟩ := DataW.trod_int Try.underlying3 a5
    obtain ⟨z6, e6, _, wf6⟩ := DataW.trod_int Try.underlying5 a6
    have u6 := u8_wf wf6
    obtain ⟨b6, rfl⟩ := Int.eq_ofNat_of_zero_le u6.1
    have c5 := take_at e5
    have c6 := take_at e6
    refine ⟨k, nn, cs[44], cs[45], cs[46], z5, b6, n0, f0, n1, f1, n2, f2, congrArg Value.agg ?_, ⟨fun i hi => (hk i hi).1, fun i hi => (hn i hi).1, by omega, wf5⟩, ⟨s0, s1, s2⟩, ?_⟩
    · apply Array.ext_getElem?
      intro i
      have hCi : C[i]? = cs[i]? := by rw [← hC]; simp
      rw [hCi]
      by_cases h32 : i < 32
      · rw [caC_k _ _ _ _ _ _ _ _ h32]
        have := (hk i h32).2
        rw [List.getElem?_take_of_lt h32, List.getElem?_drop, Nat.zero_add] at this
        exact this
      · by_cases h44 : i < 44
        · obtain ⟨j, rfl⟩ : ∃ j, i = 32 + j := ⟨i - 32, by omega⟩
          rw [caC_n _ _ _ _ _ _ _ _ (by omega)]
          have := (hn j (by omega)).2
          rw [List.getElem?_take_of_lt (by omega), List.getElem?_drop] at this
          exact this
        · have hcs : i = 44 ∨ i = 45 ∨ i = 46 ∨ i = 47 ∨ i = 48 ∨ 49 ≤ i := by omega
          rcases hcs with rfl | rfl | rfl | rfl | rfl | h49
          · rw [caC_44, List.getElem?_eq_getElem (by omega)]
          · rw [caC_45, List.getElem?_eq_getElem (by omega)]
          · rw [caC_46, List.getElem?_eq_getElem (by omega)]
          · rw [caC_47]; exact c5
          · rw [caC_48]; exact c6
          · rw [List.getElem?_eq_none (by omega), Array.getElem?_eq_none (by rw [caC_size]; omega)]
    · have ed : d = .agg [y0.1, y1.1, y2.1, y3.1, y4.1, y5.1, y6.1] := (Prod.mk.inj hx).1
      rw [ed]
      simp only [Rows.uptoBulk, Rows.uptoBulkAll]
      omega
end Go.Proofs.Ytachilkhbfpahaa

/- For every case (a key, a nonce, what is open, a text, other bytes, an int, a byte) of bulk at most 1048576, rimelaw12.SealOpens returns true and its argument reads afterwards as it read before. Its condition: that bound. -/
set_option linter.constructorNameAsVariable false
namespace Go.Proofs.Ytachilkhbfpahaa
open Go.ChangeShapes Go.WideShapes Go.ChangeAt Go.RowKit Go.Deep

theorem i64_wf {n : Int} (h : (Lit.int .i64 n).wf = true) : -9223372036854775808 ≤ n ∧ n < 9223372036854775808 := by
  have := bounds_i64 h
  omega
set_option maxRecDepth 100000 in
theorem sealOpens_lifted (os : Go.Os) (started : os.Started) (H : Type) (enc : TypeId × Value → H) (F : Stop.Interp) :
    ReturnsInHanded {} Try.checked os 6 .any ((Rows.OpenSpec.upto Rows.sealOpensSpec).pre6 enc Try.prog Try.f6 Rows.sealOpensUptoRow.domain false) (((Rows.OpenSpec.upto Rows.sealOpensSpec).at F).post enc Try.prog Try.f6 false true false false) := by
  refine returnsInHanded_of_cond (C := Try.checked) (s := Rows.OpenSpec.upto Rows.sealOpensSpec) (k := Rows.uptoSmall) rfl own started (by kernel_rfl) Try.func6
    (OpenSpec.witness (enc := enc) (C := Try.checked) (s := Rows.OpenSpec.upto Rows.sealOpensSpec) (k := Rows.uptoSmall) rfl false ⟨#[], #[.agg (caC z0 z0 (.slice none 0 0) (.slice none 0 0) (.slice none 0 0) 0 0)], []⟩ 8 (by kernel_rfl) (by kernel_rfl) (by kernel_rfl)
      (x := ([.agg [.agg (List.replicate 32 (.lit (.int .u8 0))), .agg (List.replicate 12 (.lit (.int .u8 0))), .nil, .nil, .nil, .lit (.int .i64 0), .lit (.int .u8 0)]], [], [])) (by kernel_rfl) rfl (by kernel_rfl)) ?_
  intro W base args ds gs before hval0 hW _ hk0 _
  have hval : ∀ (j : Nat) t v, Try.f6.params[j]? = some t → args[j]? = some v → Value.okWide Try.prog W .any base t v := hval0
  have hW' := hW
  obtain ⟨p, q, hA0, hV, rfl, hfz, hnd⟩ := hW
  have hA : DataW.TrodAll enc Try.prog W 0 (fun _ => true) true Try.f6.params.toList args.toList ds p := hA0
  rw [Try.params6] at hA hval
  obtain ⟨v0, d0, rfl, rfl, h0⟩ := trodAll_one hA
  obtain ⟨rfl, rfl⟩ := trodVars_none hV
  have lt0 : ∀ x ∈ p, x.block < W.heap.size := by obtain ⟨m, hm⟩ := h0; exact DataW.trod_lt m _ _ _ hm
  obtain ⟨k, nn, vO, vT, vX, at', by', n0, f0, n1, f1, n2, f2, rfl, ⟨hk, hn, hby, hat⟩, ⟨s0, s1, s2⟩, hbk⟩ := open_case (hval 0 66 v0 rfl rfl) h0
  have hb := of_decide_eq_true hk0
  simp only [List.append_nil, Rows.uptoBulkAll] at hb
  clear hA0 hval0
  refine (opens_walk k nn hk hn vO n0 f0 vT n1 f1 vX n2 f2 at' (i64_wf hat) by' hby W s0 s1 s2 (by omega) (by omega)).mono fun e W' ⟨he, hc⟩ => ?_
  have bel := hc.below
  subst he
  exact ⟨_, rfl, _, _, _, [], _, [], hW', trodAll_mk1 (shut_bool Try.underlying4 _), (trodAll_cons_mk (Below.trod laidOut (by kernel_rfl) (of_decide_eq_true (by kernel_rfl)) h0 bel lt0) trodAll_mk0), rfl, bel.frame _, fun h => by cases h⟩
theorem sealOpens_holds : Rows.SealOpensUptoSaid :=
  OpenClaim.holds_of_cond 6 Try.f6 rfl rfl rfl rfl rfl rfl rfl ⟨rfl, rfl, rfl, rfl, rfl⟩ rfl rfl rfl rfl rfl (by kernel_rfl) Try.func6 (by kernel_rfl)
    (of_decide_eq_true (by kernel_rfl)) (by unfold Func.isWrapper; first | (rw [if_pos (by decide +kernel)]; kernel_rfl) | (rw [if_neg (by decide +kernel)]; exact ⟨rfl, rfl⟩))
    (fun os started H enc _ F => sealOpens_lifted os started H enc F)
end Go.Proofs.Ytachilkhbfpahaa
