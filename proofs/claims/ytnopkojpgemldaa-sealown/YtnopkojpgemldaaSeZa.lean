/- seal: sealInto, Seal. -/
import Derived.Test.YtnopkojpgemldaaSeY
set_option linter.unusedVariables false
set_option linter.unusedSimpArgs false
set_option linter.unnecessarySimpa false
namespace Go.Proofs.Ytnopkojpgemldaa
open Go.RowKit

theorem lay_cat (t : Nat → Nat) (o a b : Nat) (F G : Nat → Nat) : lay (lay t o a F) (o + a) b G = lay t o (a + b) (cat F a G) := by
  funext j
  unfold lay cat
  by_cases h1 : o + a ≤ j ∧ j < o + a + b
  · rw [if_pos h1, if_pos (by omega), if_neg (by omega), show j - (o + a) = j - o - a by omega]
  · rw [if_neg h1]
    by_cases h2 : o ≤ j ∧ j < o + a
    · rw [if_pos h2, if_pos (by omega), if_pos (by omega)]
    · rw [if_neg h2, if_neg (by omega)]
/-- What is sealed. -/
def sealB (k nn : Nat → Nat) (n0 : Nat) (f0 : Nat → Nat) (n1 : Nat) (f1 : Nat → Nat) : Nat → Nat := cat (xo f1 (ks k 1 nn)) n1 (tagT k nn n0 f0 n1 (xo f1 (ks k 1 nn)))
set_option maxHeartbeats 8000000 in
set_option maxRecDepth 100000 in
theorem sealInto_s (k nn : Nat → Nat) (hk : ∀ i, i < 32 → k i < 256) (hn : ∀ i, i < 12 → nn i < 256) (g o N c : Nat) (t : Nat → Nat) (T : TypeId) (v0 : Value) (n0 : Nat) (f0 : Nat → Nat) (v1 : Value) (n1 : Nat) (f1 : Nat → Nat) (w : World)
    (hv0 : Sz w v0 n0 f0) (hz0 : Oz v0 [g]) (hv1 : Sz w v1 n1 f1) (hz1 : Oz v1 [g]) (hg : Blk w g (yC N t) T) (ho : o + (n1 + 16) ≤ N) (hc : n1 + 16 ≤ c) (hc2 : c ≤ 9223372036854775807) :
    Calls Try.prog 27 #[.slice (some ⟨g, o, none⟩) (n1 + 16) c, .agg (yC 32 k), .agg (yC 12 nn), v0, v1] w fun e w' => e = .returned (.tuple #[]) ∧ Blk w' g (yC N (lay t o (n1 + 16) (sealB k nn n0 f0 n1 f1))) T ∧ Chg w w' [g] := by
  have HBG : Hid (∀ w, Calls Try.prog 31 #[.agg (yC 32 k), .int .u32 1, .agg (yC 12 nn)] w fun e w' => e = .returned (.agg (tC 16 (st0 k 1 nn))) ∧ Chg w w' []) := fun w => begun_s k 1 nn hk hn w
  have HVS : Hid (V16 (st0 k 1 nn)) := st0_V hk hn (by unfold V; omega)
  have HVV : Hid ((Sz w v0 n0 f0 ∧ Oz v0 [g]) ∧ Sz w v1 n1 f1 ∧ Oz v1 [g]) := ⟨⟨hv0, hz0⟩, hv1, hz1⟩
  have HKN : Hid ((∀ i, i < 32 → k i < 256) ∧ ∀ i, i < 12 → nn i < 256) := ⟨hk, hn⟩
  have HSB : Hid (∀ t, lay (lay t o n1 (xo f1 (ks k 1 nn))) (o + n1) 16 (tagT k nn n0 f0 n1 (xo f1 (ks k 1 nn))) = lay t o (n1 + 16) (sealB k nn n0 f0 n1 f1)) := fun t => lay_cat t o n1 16 _ _
  have HXB : Hid (∀ i, i < n1 → xo f1 (ks k 1 nn) i < 256) := xo_lt hv1.bd (ks_lt k 1 nn)
  have HKS : Hid (xo f1 (ksS (st0 k 1 nn)) = xo f1 (ks k 1 nn)) := rfl
  obtain ⟨X, hX⟩ : ∃ X, xo f1 (ks k 1 nn) = X := ⟨_, rfl⟩
  obtain ⟨S, hS⟩ : ∃ S, st0 k 1 nn = S := ⟨_, rfl⟩
  obtain ⟨Z, hZ⟩ : ∃ Z, sealB k nn n0 f0 n1 f1 = Z := ⟨_, rfl⟩
  rw [hX] at HSB HXB HKS
  rw [hS] at HBG HVS HKS
  rw [hZ] at HSB ⊢
  have HG : Hid (g < w.heap.size ∧ o + (n1 + 16) ≤ N ∧ n1 + 16 ≤ c ∧ c ≤ 9223372036854775807) := ⟨hg.lt, ho, hc, hc2⟩
  obtain ⟨p1, c1, e1, _⟩ := id hv1
  subst e1
  obtain ⟨M, hM⟩ : ∃ M, n1 + 16 = M := ⟨_, rfl⟩
  have HM : Hid (n1 + 16 = M) := hM
  rw [hM]
  have i1 : (n1 : Int) ≤ (M : Int) := by omega
  have i2 : (n1 : Int) ≤ (c : Int) := by omega
  have i3 : (M : Int) ≤ (c : Int) := by omega
  have i4 : ¬ c = n1 := by omega
  have i5 : M - n1 = 16 := by omega
  clear hk hn hv0 hz0 hv1 hz1 ho hc hc2 hX hS hZ hM
  go_enter Try.func27, Try.ntmps27
  go_wp2_with (first
    | (with_reducible refine load_b BN 25 (.tmp 7) Try.underlying25 ?_ ?_ ?_ ?_ ?_ ?_
       · rfl
       · rfl
       · rfl
       · rfl
       · (rw [yC_size]; exact nonInfo))
    | (with_reducible refine load_b (BK.chg k2 (by simp)) 23 (.tmp 6) Try.underlying23 ?_ ?_ ?_ ?_ ?_ ?_
       · rfl
       · rfl
       · rfl
       · rfl
       · (rw [yC_size]; exact keyInfo))
    | (refine box_w rfl 25 _ rfl (yC 12 nn) rfl ?_; intro nb w2 hnb BN k2)
    | (refine box_w rfl 23 _ rfl (yC 32 k) rfl ?_; intro kb w1 hkb BK k1))
  refine (HBG.out w2).mono ?_
  rintro e w3 ⟨rfl, k3⟩
  have K3 : Chg w w3 [] := (k1.trans1 k2).trans1 k3
  have BK3 := (BK.chg k2 (by simp)).chg k3 (by simp)
  have BN3 := BN.chg k3 (by simp)
  have HKB : Hid (¬ kb = g ∧ ¬ nb = g) := ⟨by have := HG.out; omega, by have := HG.out; have := k1.size; omega⟩
  clear BK BN k1 k2 k3 hkb hnb
  go_wp2_with fail
  refine (mask_s g o c N T (.slice p1 n1 c1) n1 f1 t S HVS.out w3 (hg.chg K3 (by simp)) (HVV.out.2.1.kept K3) HVV.out.2.2 (by have := HG.out; omega) (by have := HG.out; omega) HG.out.2.2.2 (some ⟨g, o, none⟩) (fun _ => rfl)).mono ?_
  rw [HKS.out]
  rintro e w4 ⟨rfl, BG4, k4⟩
  have K4 : Chg w w4 [g] := K3.wide.trans1 k4
  have BK4 := BK3.chg k4 (by have := HKB.out; simp; omega)
  have BN4 := BN3.chg k4 (by have := HKB.out; simp; omega)
  clear BK3 BN3 K3 k4 hg
  have HSM : Hid (Sz w4 (.slice (some ⟨g, o, none⟩) n1 c) n1 X) := by
    refine ⟨_, c, rfl, by have := HG.out; omega, HG.out.2.2.2, fun _ => ⟨g, o, rfl, BG4.lt, HXB.out, fun i hi => ?_⟩⟩
    rw [BG4.cell, yC_get _ _ _ (by have := HG.out; omega)]
    unfold lay
    rw [if_pos (by omega), Nat.add_sub_cancel_left]
  go_wp2_with (first
    | (with_reducible refine load_b BN4 25 (.tmp 7) Try.underlying25 ?_ ?_ ?_ ?_ ?_ ?_
       · rfl
       · rfl
       · rfl
       · rfl
       · (rw [yC_size]; exact nonInfo))
    | (with_reducible refine load_b BK4 23 (.tmp 6) Try.underlying23 ?_ ?_ ?_ ?_ ?_ ?_
       · rfl
       · rfl
       · rfl
       · rfl
       · (rw [yC_size]; exact keyInfo)))
  refine (tagOf_s k nn HKN.out.1 HKN.out.2 v0 n0 f0 (.slice (some ⟨g, o, none⟩) n1 c) n1 X w4 (HVV.out.1.1.chg K4 HVV.out.1.2) HSM.out).mono ?_
  obtain ⟨TT, hTT⟩ : ∃ T, tagT k nn n0 f0 n1 X = T := ⟨_, rfl⟩
  rw [hTT] at HSB ⊢
  clear hTT
  rintro e w5 ⟨rfl, k5⟩
  have K5 : Chg w w5 [g] := K4.trans1 k5.wide
  have BG5 := BG4.chg k5 (by simp)
  clear BG4 K4 k5 BK4 BN4 HSM
  go_wp2_with (first
    | (refine store_w BS rfl 43 _ _ (yC 16 TT) rfl rfl rfl (by rw [yC_size]; exact tagInfo) (by rw [yC_size, yC_size]) (yC_one 16 _) ?_; intro w7 BS7 k7)
    | (with_reducible refine alloc_w rfl 43 rfl (.agg (yC 16 (fun _ => 0))) zeroTag (yC 16 (fun _ => 0)) rfl ?_; intro sb w6 hsb BS k6))
  have HSBN : Hid (¬ sb = g ∧ w.heap.size ≤ sb) := ⟨by have := BG5.lt; omega, by have := K5.size; omega⟩
  have K7 : Chg w w7 [g] := (K5.trans1 k6.wide).trans k7 (by intro i hi; simp at hi; subst hi; exact Or.inr HSBN.out.2)
  have BG7 := (BG5.chg k6 (by simp)).chg k7 (by have := HSBN.out; simp; omega)
  clear K5 k6 k7 BG5 BS hsb
  refine lt_begin (fun _ => True) (fun _ => false) (by kernel_rfl) ?_
  replace BG7 := BG7.drew
  replace BS7 := BS7.drew
  replace K7 := K7.drew
  obtain ⟨z, hz⟩ : ∃ z, z = w7.drew := ⟨_, rfl⟩
  rw [← hz] at BG7 BS7 K7 ⊢
  clear hz
  refine lt_val (v := ?_) 0 (some 27) rfl (by kernel_rfl) (by kernel_rfl) (by kernel_rfl) (fun _ _ _ h => h) rfl rfl (fun w => ?_) ?_
  rotate_left
  · (go_simp; try with_reducible rfl)
  try simp only [Act.put, List.setIfInBounds_toArray, List.set_cons_zero, List.set_cons_succ]
  refine lt_val (v := ?_) 1 (some 28) rfl (by kernel_rfl) (by kernel_rfl) (by kernel_rfl) (fun _ _ _ h => h) rfl rfl (fun w => ?_) ?_
  rotate_left
  · (go_simp; try with_reducible rfl)
  try simp only [Act.put, List.setIfInBounds_toArray, List.set_cons_zero, List.set_cons_succ]
  refine lt_val (v := ?_) 2 (some 29) rfl (by kernel_rfl) (by kernel_rfl) (by kernel_rfl) (fun _ _ _ h => h) rfl rfl (fun w => ?_) ?_
  rotate_left
  · (go_simp; try with_reducible rfl)
  try simp only [Act.put, List.setIfInBounds_toArray, List.set_cons_zero, List.set_cons_succ]
  refine lt_val (v := (.slice (some ⟨g, o + n1, none⟩) 16 (c - n1))) 3 (some 30) rfl (by kernel_rfl) (by kernel_rfl) (by kernel_rfl) (fun _ _ _ h => h) rfl rfl (fun w => ?_) ?_
  · (go_simp; try with_reducible rfl)
  try simp only [Act.put, List.setIfInBounds_toArray, List.set_cons_zero, List.set_cons_succ]
  refine lt_val (v := (.slice (some ⟨sb, 0, none⟩) 16 16)) 4 (some 31) rfl (by kernel_rfl) (by kernel_rfl) (by kernel_rfl) (fun _ _ _ h => h) rfl rfl (fun w => ?_) ?_
  · (go_simp; try with_reducible rfl)
  try simp only [Act.put, List.setIfInBounds_toArray, List.set_cons_zero, List.set_cons_succ]
  refine lt_one 5 rfl (by kernel_rfl) rfl (fun K hK => ?_)
  refine copy_yz (.tmp 30) (.tmp 31) 26 26 rfl 5 Try.underlying26 u8Inf g (o + n1) 16 (c - n1) (some ⟨sb, 0, none⟩) 16 16 rfl rfl N _ T BG7 16 TT rfl (by omega) ⟨sb, 0, rfl, fun j hj => by rw [BS7.cell, Nat.zero_add, yC_get _ _ _ (by omega)]⟩ (by have := HG.out; omega) ?_
  intro w8 B8 k8
  change K (Act.put _ (some 32) _) _
  refine hK.out _ _ (fun _ h => h) ?_
  clear hK K
  try simp only [Act.put, List.setIfInBounds_toArray, List.set_cons_zero, List.set_cons_succ]
  refine lt_done (by kernel_rfl) ?_ _
  have K8 : Chg w w8 [g] := K7.trans1 k8
  rw [HSB.out, HM.out] at B8
  clear K7 k8 BG7 BS7
  go_wp2_with fail
  go_end0
  exact ⟨rfl, B8, K8⟩
/-- N bytes F in a new block. -/
def AnsB (w : World) (N : Nat) (F : Nat → Nat) (e : Ending) (w' : World) : Prop := ∃ g, e = .returned (.slice (some ⟨g, 0, none⟩) N N) ∧ w.heap.size ≤ g ∧ Blk w' g (yC N F) 5 ∧ Chg w w' []
theorem lay_all (t : Nat → Nat) (N : Nat) (F : Nat → Nat) : yC N (lay t 0 N F) = yC N F := yC_eq fun j hj => by unfold lay; rw [if_pos (by omega), Nat.sub_zero]
set_option maxHeartbeats 8000000 in
set_option maxRecDepth 100000 in
theorem Seal_s (k nn : Nat → Nat) (hk : ∀ i, i < 32 → k i < 256) (hn : ∀ i, i < 12 → nn i < 256) (v0 : Value) (n0 : Nat) (f0 : Nat → Nat) (v1 : Value) (n1 : Nat) (f1 : Nat → Nat) (w : World)
    (hv0 : Sz w v0 n0 f0) (hv1 : Sz w v1 n1 f1) (hm : n1 + 16 ≤ 140737488355456) :
    Calls Try.prog 10 #[.agg (yC 32 k), .agg (yC 12 nn), v0, v1] w fun e w' => AnsB w (n1 + 16) (sealB k nn n0 f0 n1 f1) e w' := by
  have HVV : Hid (Sz w v0 n0 f0 ∧ Sz w v1 n1 f1) := ⟨hv0, hv1⟩
  have HKN : Hid ((∀ i, i < 32 → k i < 256) ∧ ∀ i, i < 12 → nn i < 256) := ⟨hk, hn⟩
  obtain ⟨Z, hZ⟩ : ∃ Z, sealB k nn n0 f0 n1 f1 = Z := ⟨_, rfl⟩
  rw [hZ]
  have HZ : Hid (sealB k nn n0 f0 n1 f1 = Z) := hZ
  obtain ⟨p1, c1, e1, _⟩ := id hv1
  subst e1
  obtain ⟨M, hM⟩ : ∃ M, n1 + 16 = M := ⟨_, rfl⟩
  have HM : Hid (n1 + 16 = M ∧ M ≤ 140737488355456) := ⟨hM, by omega⟩
  have e1 : IntKind.i64.wrap ((n1 : Int) + 16) = (M : Int) := by rw [IntKind.wrap_i64]; omega
  rw [hM]
  clear hk hn hv0 hv1 hZ hM hm
  go_enter Try.func10, Try.ntmps10
  go_wp2_with (first
    | (with_reducible refine load_b (BN.chg k3 (by simp)) 25 (.tmp 5) Try.underlying25 ?_ ?_ ?_ ?_ ?_ ?_
       · rfl
       · rfl
       · rfl
       · rfl
       · (rw [yC_size]; exact nonInfo))
    | (with_reducible refine load_b ((BK.chg k2 (by simp)).chg k3 (by simp)) 23 (.tmp 4) Try.underlying23 ?_ ?_ ?_ ?_ ?_ ?_
       · rfl
       · rfl
       · rfl
       · rfl
       · (rw [yC_size]; exact keyInfo))
    | (refine make_w rfl (.tmp 12) (.tmp 12) rfl M rfl rfl HM.out.2 ?_; intro g w3 hg BG k3)
    | (refine box_w rfl 25 _ rfl (yC 12 nn) rfl ?_; intro nb w2 hnb BN k2)
    | (refine box_w rfl 23 _ rfl (yC 32 k) rfl ?_; intro kb w1 hkb BK k1))
  have K3 : Chg w w3 [] := (k1.trans1 k2).trans1 k3
  have HG : Hid (w.heap.size ≤ g) := by have := (k1.trans1 k2).size; show w.heap.size ≤ g; omega
  clear k1 k2 k3 BK BN hkb hnb hg
  have q := sealInto_s k nn HKN.out.1 HKN.out.2 g 0 M M (fun _ => 0) 5 v0 n0 f0 (.slice p1 n1 c1) n1 f1 w3 (HVV.out.1.kept K3) (HVV.out.1.new [g] (by have := HG.out; simpa using this)) (HVV.out.2.kept K3) (HVV.out.2.new [g] (by have := HG.out; simpa using this)) BG (by have := HM.out; omega) (by have := HM.out; omega) (by have := HM.out; omega)
  rw [HZ.out, HM.out.1] at q
  refine q.mono ?_
  clear q
  rintro e w4 ⟨rfl, B4, k4⟩
  rw [lay_all] at B4
  have K4 : Chg w w4 [] := K3.new k4 HG.out
  go_wp2_with fail
  go_ret
  exact ⟨g, rfl, HG.out, B4, K4⟩
end Go.Proofs.Ytnopkojpgemldaa
