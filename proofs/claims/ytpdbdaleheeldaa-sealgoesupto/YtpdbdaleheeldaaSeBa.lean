/- SealBack: the walk. -/
import Derived.Test.YtpdbdaleheeldaaSeCg
import Derived.Test.YtpdbdaleheeldaaSeWk
import Derived.Test.YtpdbdaleheeldaaSeSm
import Derived.Test.YtpdbdaleheeldaaSeM
import Derived.Test.YtpdbdaleheeldaaSeCt
set_option linter.unusedVariables false
set_option linter.unusedSimpArgs false
set_option linter.unnecessarySimpa false
namespace Go.Proofs.Ytpdbdaleheeldaa
open Go.RowKit

/-- What opens is the seal of what it tells. -/
theorem reseal {k nn : Nat → Nat} {n0 : Nat} {f0 : Nat → Nat} {N : Nat} {f : Nat → Nat} (h : tagged k nn n0 f0 N f = true) (i : Nat) (hi : i < N + 16) : sealB k nn n0 f0 N (xo f (ks k 1 nn)) i = f i := by
  by_cases h1 : i < N
  · rw [seal_lo _ _ _ _ _ _ _ h1, xo_xo]
  · obtain ⟨j, rfl⟩ : ∃ j, i = N + j := ⟨i - N, by omega⟩
    rw [seal_hi, xo_xo]
    exact ((eqn_iff 16 _ _).1 h j (by omega)).symm
theorem caseInfo : (Try.prog.info? 28).map (·.size) = some 49 := by kernel_rfl
set_option maxHeartbeats 16000000 in
set_option maxRecDepth 100000 in
theorem back_walk (k nn : Nat → Nat) (hk : ∀ i, i < 32 → k i < 256) (hn : ∀ i, i < 12 → nn i < 256) (vO : Value) (n0 : Nat) (f0 : Nat → Nat) (vT : Value) (n1 : Nat) (f1 : Nat → Nat) (vX : Value) (n2 : Nat) (f2 : Nat → Nat) (at' : Int) (by' : Nat) (w : World)
    (h0 : Sz w vO n0 f0) (h1 : Sz w vT n1 f1) (h2 : Sz w vX n2 f2) (b1 : n1 ≤ 1048576) (b2 : n2 ≤ 1048576) :
    Calls Try.prog 3 #[.agg (caC k nn vO vT vX at' by')] w fun e w' => e = .returned (.bool true) ∧ Chg w w' [] := by
  have HKN : Hid ((∀ i, i < 32 → k i < 256) ∧ ∀ i, i < 12 → nn i < 256) := ⟨hk, hn⟩
  have HS : Hid (Sz w vO n0 f0 ∧ Sz w vT n1 f1 ∧ Sz w vX n2 f2) := ⟨h0, h1, h2⟩
  have HB : Hid (n1 ≤ 1048576 ∧ n2 ≤ 1048576) := ⟨b1, b2⟩
  have HST : Hid (∀ w' v n f, Sz w' v n f → n ≤ 1048576 → Calls Try.prog 13 #[.agg (yC 32 k), .int .u32 1, .agg (yC 12 nn), v] w' fun e w'' => AnsE w' n (xo f (ks k 1 nn)) e w'') := fun w' v n f h hb => Stream_ok k nn 1 hk hn (by unfold V; omega) v n f w' h (by omega) (by omega)
  obtain ⟨p0, c0, e0, _⟩ := id h0
  obtain ⟨p1, c1, e1, _⟩ := id h1
  obtain ⟨p2, c2, e2, _⟩ := id h2
  subst e0 e1 e2
  clear h0 h1 h2 b1 b2 hk hn
  go_enter Try.func3, Try.ntmps3
  go_wp2_with (refine box_w rfl 28 _ rfl (caC k nn (.slice p0 n0 c0) (.slice p1 n1 c1) (.slice p2 n2 c2) at' by') rfl ?_; intro cb w1 hcb BC k1)
  refine lt_begin (fun w' => Blk w' cb (caC k nn (.slice p0 n0 c0) (.slice p1 n1 c1) (.slice p2 n2 c2) at' by') 28) (fun _ => false) (by kernel_rfl) ?_
  have hHeld := BC.drew
  replace k1 := k1.drew
  obtain ⟨z, hz⟩ : ∃ z, z = w1.drew := ⟨_, rfl⟩
  rw [← hz] at hHeld k1 ⊢
  clear hz BC
  refine lt_val (v := ?_) 0 (some 15) rfl (by kernel_rfl) (by kernel_rfl) (by kernel_rfl) (fun _ _ _ h => h) rfl rfl (fun w => ?_) ?_
  rotate_left
  · (go_simp; try with_reducible rfl)
  try simp only [Act.put, List.setIfInBounds_toArray, List.set_cons_zero, List.set_cons_succ]
  refine lt_read (v := (.agg (yC 32 k))) 1 (some 16) rfl (by kernel_rfl) (by kernel_rfl) (by kernel_rfl) (by kernel_rfl) (fun _ _ _ h => h) rfl rfl (fun w hSw => ?_) hHeld ?_
  · skip; exact (exec_load_m w 23 (.tmp 15) rfl cb 0 rfl (yL 32 k) _ (fun j x hj => by obtain ⟨q1, rfl⟩ := yL_some _ _ _ _ hj; rw [Nat.zero_add, hSw.cell, caC_k _ _ _ _ _ _ _ _ q1]) Try.underlying23 rfl (by rw [yL_len]; exact keyInfo))
  try simp only [Act.put, List.setIfInBounds_toArray, List.set_cons_zero, List.set_cons_succ]
  refine lt_val (v := ?_) 2 (some 17) rfl (by kernel_rfl) (by kernel_rfl) (by kernel_rfl) (fun _ _ _ h => h) rfl rfl (fun w => ?_) ?_
  rotate_left
  · (go_simp; try with_reducible rfl)
  try simp only [Act.put, List.setIfInBounds_toArray, List.set_cons_zero, List.set_cons_succ]
  refine lt_read (v := (.agg (yC 12 nn))) 3 (some 18) rfl (by kernel_rfl) (by kernel_rfl) (by kernel_rfl) (by kernel_rfl) (fun _ _ _ h => h) rfl rfl (fun w hSw => ?_) hHeld ?_
  · skip; exact (exec_load_m w 25 (.tmp 17) rfl cb 32 rfl (yL 12 nn) _ (fun j x hj => by obtain ⟨q1, rfl⟩ := yL_some _ _ _ _ hj; rw [hSw.cell, caC_n _ _ _ _ _ _ _ _ q1]) Try.underlying25 rfl (by rw [yL_len]; exact nonInfo))
  try simp only [Act.put, List.setIfInBounds_toArray, List.set_cons_zero, List.set_cons_succ]
  refine lt_val (v := ?_) 4 (some 19) rfl (by kernel_rfl) (by kernel_rfl) (by kernel_rfl) (fun _ _ _ h => h) rfl rfl (fun w => ?_) ?_
  rotate_left
  · (go_simp; try with_reducible rfl)
  try simp only [Act.put, List.setIfInBounds_toArray, List.set_cons_zero, List.set_cons_succ]
  refine lt_read (v := (.slice p0 n0 c0)) 5 (some 20) rfl (by kernel_rfl) (by kernel_rfl) (by kernel_rfl) (by kernel_rfl) (fun _ _ _ h => h) rfl rfl (fun w hSw => ?_) hHeld ?_
  · have qc := (hSw.cell 44).trans (caC_44 k nn _ _ _ at' by'); (go_simp; try with_reducible rfl)
  try simp only [Act.put, List.setIfInBounds_toArray, List.set_cons_zero, List.set_cons_succ]
  refine lt_val (v := ?_) 6 (some 21) rfl (by kernel_rfl) (by kernel_rfl) (by kernel_rfl) (fun _ _ _ h => h) rfl rfl (fun w => ?_) ?_
  rotate_left
  · (go_simp; try with_reducible rfl)
  try simp only [Act.put, List.setIfInBounds_toArray, List.set_cons_zero, List.set_cons_succ]
  refine lt_read (v := (.slice p1 n1 c1)) 7 (some 22) rfl (by kernel_rfl) (by kernel_rfl) (by kernel_rfl) (by kernel_rfl) (fun _ _ _ h => h) rfl rfl (fun w hSw => ?_) hHeld ?_
  · have qc := (hSw.cell 45).trans (caC_45 k nn _ _ _ at' by'); (go_simp; try with_reducible rfl)
  try simp only [Act.put, List.setIfInBounds_toArray, List.set_cons_zero, List.set_cons_succ]
  refine lt_val (v := ?_) 8 (some 23) rfl (by kernel_rfl) (by kernel_rfl) (by kernel_rfl) (fun _ _ _ h => h) rfl rfl (fun w => ?_) ?_
  rotate_left
  · (go_simp; try with_reducible rfl)
  try simp only [Act.put, List.setIfInBounds_toArray, List.set_cons_zero, List.set_cons_succ]
  refine lt_read (v := (.slice p2 n2 c2)) 9 (some 24) rfl (by kernel_rfl) (by kernel_rfl) (by kernel_rfl) (by kernel_rfl) (fun _ _ _ h => h) rfl rfl (fun w hSw => ?_) hHeld ?_
  · have qc := (hSw.cell 46).trans (caC_46 k nn _ _ _ at' by'); (go_simp; try with_reducible rfl)
  try simp only [Act.put, List.setIfInBounds_toArray, List.set_cons_zero, List.set_cons_succ]
  refine lt_two 10 11 rfl rfl (by kernel_rfl) (by kernel_rfl) (by kernel_rfl) rfl rfl (by decide) 23 25 rfl rfl (.agg (yC 32 z0)) (.agg (yC 12 z0)) zeroKey zeroNon (yC 32 z0) (yC 12 z0) rfl rfl 3 4 rfl rfl (by decide) (fun _ _ k h => h.chg k (by simp)) ?_
  intro kb nb w2 hkb hnb hkn BK BN k2
  try simp only [Act.put, List.setIfInBounds_toArray, List.set_cons_zero, List.set_cons_succ]
  refine lt_one 12 rfl (by kernel_rfl) rfl (fun K hK => ?_)
  refine wp_store_w BK 23 _ _ (yC 32 k) rfl rfl rfl (by rw [yC_size]; exact keyInfo) (by rw [yC_size, yC_size]) (yC_one 32 _) ?_
  intro w3 BK3 k3
  change K (Act.put _ none _) _
  have HCB : Hid (¬ cb = kb ∧ ¬ cb = nb) := ⟨by have := hHeld.lt; omega, by have := hHeld.lt; omega⟩
  refine hK.out _ _ (fun _ h => h.chg k3 (by have := HCB.out; simp; omega)) ?_
  clear hK K
  try simp only [Act.put, List.setIfInBounds_toArray, List.set_cons_zero, List.set_cons_succ]
  refine lt_one 13 rfl (by kernel_rfl) rfl (fun K hK => ?_)
  refine wp_store_w (BN.chg k3 (by simp; omega)) 25 _ _ (yC 12 nn) rfl rfl rfl (by rw [yC_size]; exact nonInfo) (by rw [yC_size, yC_size]) (yC_one 12 _) ?_
  intro w4 BN4 k4
  change K (Act.put _ none _) _
  refine hK.out _ _ (fun _ h => h.chg k4 (by have := HCB.out; simp; omega)) ?_
  clear hK K
  try simp only [Act.put, List.setIfInBounds_toArray, List.set_cons_zero, List.set_cons_succ]
  refine lt_val (v := ?_) 14 (some 5) rfl (by kernel_rfl) (by kernel_rfl) (by kernel_rfl) (fun _ _ _ h => h) rfl rfl (fun w => ?_) ?_
  rotate_left
  · (go_simp; try with_reducible rfl)
  try simp only [Act.put, List.setIfInBounds_toArray, List.set_cons_zero, List.set_cons_succ]
  refine lt_val (v := ?_) 15 (some 6) rfl (by kernel_rfl) (by kernel_rfl) (by kernel_rfl) (fun _ _ _ h => h) rfl rfl (fun w => ?_) ?_
  rotate_left
  · (go_simp; try with_reducible rfl)
  try simp only [Act.put, List.setIfInBounds_toArray, List.set_cons_zero, List.set_cons_succ]
  refine lt_val (v := ?_) 16 (some 7) rfl (by kernel_rfl) (by kernel_rfl) (by kernel_rfl) (fun _ _ _ h => h) rfl rfl (fun w => ?_) ?_
  rotate_left
  · (go_simp; try with_reducible rfl)
  try simp only [Act.put, List.setIfInBounds_toArray, List.set_cons_zero, List.set_cons_succ]
  refine lt_done (by kernel_rfl) ?_ _
  have hs1 := k1.size
  have K4 : Chg w w4 [] := ((k1.trans1 k2).new k3 (by omega)).new k4 (by omega)
  have BK4 := BK3.chg k4 (by simp; omega)
  clear k1 k2 k3 k4 BK BN BK3 hHeld hcb hkb hnb hkn hs1 HCB
  go_wp2_with fail
  refine (works_s w4).mono ?_
  rintro e w5 ⟨rfl, k5⟩
  have K5 : Chg w w5 [] := K4.trans1 k5
  have BK5 := BK4.chg k5 (by simp)
  have BN5 := BN4.chg k5 (by simp)
  clear K4 BK4 BN4 k5
  go_wp2_with (first
    | (with_reducible refine load_b BN5 25 (.tmp 4) Try.underlying25 ?_ ?_ ?_ ?_ ?_ ?_
       · rfl
       · rfl
       · rfl
       · rfl
       · (rw [yC_size]; exact nonInfo))
    | (with_reducible refine load_b BK5 23 (.tmp 3) Try.underlying23 ?_ ?_ ?_ ?_ ?_ ?_
       · rfl
       · rfl
       · rfl
       · rfl
       · (rw [yC_size]; exact keyInfo)))
  refine (Seal_s k nn HKN.out.1 HKN.out.2 _ n0 f0 _ n1 f1 w5 (HS.out.1.kept K5) (HS.out.2.1.kept K5) (by have := HB.out; omega)).mono ?_
  rintro e w6 ⟨gb, rfl, hgb, BB, k6⟩
  have K6 : Chg w w6 [] := K5.trans1 k6
  have BK6 := BK5.chg k6 (by simp)
  have BN6 := BN5.chg k6 (by simp)
  clear K5 BK5 BN5 k6 hgb
  have HZL : Hid (∀ i, i < n1 + 16 → sealB k nn n0 f0 n1 f1 i < 256) := seal_lt HS.out.2.1.bd
  have HBK : Hid (∀ i, i < n1 → xo (sealB k nn n0 f0 n1 f1) (ks k 1 nn) i = f1 i) := seal_back k nn n0 f0 n1 f1
  have HLO : Hid (∀ i, i < n1 → sealB k nn n0 f0 n1 f1 i = xo f1 (ks k 1 nn) i) := fun i hi => seal_lo k nn n0 f0 n1 f1 i hi
  have HTG : Hid (tagged k nn n0 f0 n1 (sealB k nn n0 f0 n1 f1) = true) := tagged_seal k nn n0 f0 n1 f1
  obtain ⟨Z, hZ⟩ : ∃ Z, sealB k nn n0 f0 n1 f1 = Z := ⟨_, rfl⟩
  rw [hZ] at HZL HBK HLO HTG BB
  clear hZ
  obtain ⟨M, hM⟩ : ∃ M, n1 + 16 = M := ⟨_, rfl⟩
  have HM : Hid (n1 + 16 = M) := hM
  have eM : IntKind.i64.wrap ((n1 : Int) + 16) = (M : Int) := by have := HB.out; rw [IntKind.wrap_i64]; omega
  have iM : (n1 : Int) ≤ (M : Int) := by omega
  rw [hM] at BB ⊢
  clear hM
  go_wp2_with (first
    | (with_reducible refine load_b BN6 25 (.tmp 4) Try.underlying25 ?_ ?_ ?_ ?_ ?_ ?_
       · rfl
       · rfl
       · rfl
       · rfl
       · (rw [yC_size]; exact nonInfo))
    | (with_reducible refine load_b BK6 23 (.tmp 3) Try.underlying23 ?_ ?_ ?_ ?_ ?_ ?_
       · rfl
       · rfl
       · rfl
       · rfl
       · (rw [yC_size]; exact keyInfo)))
  have HSB : Hid (∀ w', Blk w' gb (yC M Z) 5 → Sz w' (.slice (some ⟨gb, 0, none⟩) M M) (n1 + 16) Z) := fun w' b => by
    rw [HM.out]
    exact b.szn (fun i hi => HZL.out i (by have := HM.out; omega)) (by have := HM.out; have := HB.out; omega)
  refine (Open_s k nn HKN.out.1 HKN.out.2 _ n0 f0 _ n1 Z w6 (HS.out.1.kept K6) (HSB.out w6 BB) (by have := HB.out; omega)).mono ?_
  rw [HTG.out]
  rintro e w7 hq
  obtain ⟨gt, rfl, hgt, BT, k7⟩ : AnsE w6 n1 (xo Z (ks k 1 nn)) e w7 := by
    rcases hq with ⟨_, h⟩ | ⟨h, _⟩
    · exact h
    · cases h
  clear hq
  have K7 : Chg w w7 [] := K6.trans1 k7
  have BK7 := BK6.chg k7 (by simp)
  have BN7 := BN6.chg k7 (by simp)
  have BB7 := BB.chg k7 (by simp)
  have ST := (BT.to (yC_eq HBK.out)).szn HS.out.2.1.bd (by have := HB.out; omega)
  clear K6 BK6 BN6 BB k7 hgt BT
  go_wp2_with fail
  have q := SameBytes_z _ n1 f1 _ n1 f1 w7 ST (HS.out.2.1.kept K7)
  rw [sameB_self (fun _ _ => rfl)] at q
  refine q.mono ?_
  clear q
  rintro e w8 ⟨rfl, k8⟩
  have K8 : Chg w w8 [] := K7.trans1 k8
  have BK8 := BK7.chg k8 (by simp)
  have BN8 := BN7.chg k8 (by simp)
  have BB8 := BB7.chg k8 (by simp)
  clear K7 BK7 BN7 BB7 k8 ST
  go_wp2_with (first
    | (with_reducible refine load_b BN8 25 (.tmp 4) Try.underlying25 ?_ ?_ ?_ ?_ ?_ ?_
       · rfl
       · rfl
       · rfl
       · rfl
       · (rw [yC_size]; exact nonInfo))
    | (with_reducible refine load_b BK8 23 (.tmp 3) Try.underlying23 ?_ ?_ ?_ ?_ ?_ ?_
       · rfl
       · rfl
       · rfl
       · rfl
       · (rw [yC_size]; exact keyInfo)))
  have hcs : (n2 < 16) ∨ (∃ N2, n2 = N2 + 16) := by
    by_cases h : n2 < 16
    · exact Or.inl h
    · exact Or.inr ⟨n2 - 16, by omega⟩
  rcases hcs with hsh | ⟨N2, e2⟩
  · refine (Open_short k nn _ _ n2 f2 w8 (HS.out.2.2.kept K8) hsh).mono ?_
    have hI : (n2 : Int) < 16 := by omega
    clear hsh
    rintro e w11 ⟨rfl, k11⟩
    have K11 : Chg w w11 [] := K8.trans1 k11
    have BK11 := BK8.chg k11 (by simp)
    have BN11 := BN8.chg k11 (by simp)
    have BB11 := BB8.chg k11 (by simp)
    clear K8 k11 BK8 BN8 BB8
    go_wp2_with (first
      | (with_reducible refine load_b BN11 25 (.tmp 4) Try.underlying25 ?_ ?_ ?_ ?_ ?_ ?_
         · rfl
         · rfl
         · rfl
         · rfl
         · (rw [yC_size]; exact nonInfo))
      | (with_reducible refine load_b BK11 23 (.tmp 3) Try.underlying23 ?_ ?_ ?_ ?_ ?_ ?_
         · rfl
         · rfl
         · rfl
         · rfl
         · (rw [yC_size]; exact keyInfo)))
    refine (HST.out w11 _ n1 f1 (HS.out.2.1.kept K11) HB.out.1).mono ?_
    rintro e w12 ⟨gs, rfl, hgs, BS, k12⟩
    have K12 : Chg w w12 [] := K11.trans1 k12
    have BK12 := BK11.chg k12 (by simp)
    have BN12 := BN11.chg k12 (by simp)
    have BB12 := BB11.chg k12 (by simp)
    clear K11 k12 BK11 BN11 BB11
    go_wp2_with (first
      | (with_reducible refine load_b BN12 25 (.tmp 4) Try.underlying25 ?_ ?_ ?_ ?_ ?_ ?_
         · rfl
         · rfl
         · rfl
         · rfl
         · (rw [yC_size]; exact nonInfo))
      | (with_reducible refine load_b BK12 23 (.tmp 3) Try.underlying23 ?_ ?_ ?_ ?_ ?_ ?_
         · rfl
         · rfl
         · rfl
         · rfl
         · (rw [yC_size]; exact keyInfo)))
    have HSS : Hid (∀ i, i < n1 → xo f1 (ks k 1 nn) i < 256) := xo_lt HS.out.2.1.bd (ks_lt k 1 nn)
    refine (HST.out w12 _ n1 _ (BS.szn HSS.out (by have := HB.out; omega)) HB.out.1).mono ?_
    rw [xo_xo]
    rintro e w13 ⟨gu, rfl, hgu, BU, k13⟩
    have BS13 := BS.chg k13 (by simp)
    have K13 : Chg w w13 [] := K12.trans1 k13
    have BK13 := BK12.chg k13 (by simp)
    have BN13 := BN12.chg k13 (by simp)
    have BB13 := BB12.chg k13 (by simp)
    clear K12 k13 BK12 BN12 BB12
    go_wp2_with fail
    have q := SameBytes_z _ n1 f1 _ n1 f1 w13 (BU.szn HS.out.2.1.bd (by have := HB.out; omega)) (HS.out.2.1.kept K13)
    rw [sameB_self (fun _ _ => rfl)] at q
    refine q.mono ?_
    clear q
    rintro e w14 ⟨rfl, k14⟩
    have BS14 := BS13.chg k14 (by simp)
    have K14 : Chg w w14 [] := K13.trans1 k14
    have BK14 := BK13.chg k14 (by simp)
    have BN14 := BN13.chg k14 (by simp)
    have BB14 := BB13.chg k14 (by simp)
    clear K13 k14 BK13 BN13 BB13
    go_wp2_with fail
    have q := SameBytes_z _ n1 (xo f1 (ks k 1 nn)) (.slice (some ⟨gb, 0, none⟩) n1 M) n1 (xo f1 (ks k 1 nn)) w14 (BS14.szn HSS.out (by have := HB.out; omega)) (((BB14.sz (fun i hi => HZL.out i (by have := HM.out; omega)) 0 n1 M (by have := HM.out; omega) (by have := HM.out; omega) (by have := HM.out; have := HB.out; omega))).cg (fun i hi => by rw [Nat.zero_add]; exact HLO.out i hi))
    rw [sameB_self (fun _ _ => rfl)] at q
    refine q.mono ?_
    clear q
    rintro e w15 ⟨rfl, k15⟩
    go_wp2_with fail
    go_ret
    exact ⟨rfl, K14.trans1 k15⟩
  · have SX : Sz w8 (.slice p2 n2 c2) (N2 + 16) f2 := by rw [← e2]; exact HS.out.2.2.kept K8
    refine (Open_s k nn HKN.out.1 HKN.out.2 _ n0 f0 _ N2 f2 w8 (HS.out.1.kept K8) SX (by have := HB.out; omega)).mono ?_
    have hI : ¬ (n2 : Int) < 16 := by omega
    have HE2 : Hid (n2 = N2 + 16) := e2
    clear SX e2
    rintro e w9 hq
    obtain ⟨sv, ev, rfl, k9, HQ⟩ := hq.parts
    clear hq
    rcases HQ with ⟨htg, rfl, gx, rfl, hgx, BX⟩ | ⟨_, rfl, rfl⟩
    · have HRS : Hid (∀ i, i < N2 + 16 → sealB k nn n0 f0 N2 (xo f2 (ks k 1 nn)) i = f2 i) := reseal htg
      have HX : Hid (∀ i, i < N2 → xo f2 (ks k 1 nn) i < 256) := xo_lt (fun i hi => HS.out.2.2.bd i (by have := HE2.out; omega)) (ks_lt k 1 nn)
      clear htg
      have K9 : Chg w w9 [] := K8.trans1 k9
      have BK9 := BK8.chg k9 (by simp)
      have BN9 := BN8.chg k9 (by simp)
      have BB9 := BB8.chg k9 (by simp)
      clear K8 k9 BK8 BN8 BB8
      go_wp2_with (first
        | (with_reducible refine load_b BN9 25 (.tmp 4) Try.underlying25 ?_ ?_ ?_ ?_ ?_ ?_
           · rfl
           · rfl
           · rfl
           · rfl
           · (rw [yC_size]; exact nonInfo))
        | (with_reducible refine load_b BK9 23 (.tmp 3) Try.underlying23 ?_ ?_ ?_ ?_ ?_ ?_
           · rfl
           · rfl
           · rfl
           · rfl
           · (rw [yC_size]; exact keyInfo)))
      refine (Seal_s k nn HKN.out.1 HKN.out.2 _ n0 f0 _ N2 (xo f2 (ks k 1 nn)) w9 (HS.out.1.kept K9) (BX.szn HX.out (by have := HB.out; have := HE2.out; omega)) (by have := HB.out; have := HE2.out; omega)).mono ?_
      rw [← HE2.out]
      rintro e w10 ⟨gy, rfl, hgy, BY, k10⟩
      have K10 : Chg w w10 [] := K9.trans1 k10
      have BK10 := BK9.chg k10 (by simp)
      have BN10 := BN9.chg k10 (by simp)
      have BB10 := BB9.chg k10 (by simp)
      clear K9 k10 BK9 BN9 BB9
      have SY := (BY.to (yC_eq fun i hi => HRS.out i (by have := HE2.out; omega))).szn HS.out.2.2.bd (by have := HB.out; omega)
      clear BX BY hgx hgy HRS HX
      go_wp2_with fail
      have q := SameBytes_z _ n2 f2 _ n2 f2 w10 SY (HS.out.2.2.kept K10)
      rw [sameB_self (fun _ _ => rfl)] at q
      refine q.mono ?_
      clear q SY
      rintro e w11 ⟨rfl, k11⟩
      have K11 : Chg w w11 [] := K10.trans1 k11
      have BK11 := BK10.chg k11 (by simp)
      have BN11 := BN10.chg k11 (by simp)
      have BB11 := BB10.chg k11 (by simp)
      clear K10 k11 BK10 BN10 BB10
      go_wp2_with (first
        | (with_reducible refine load_b BN11 25 (.tmp 4) Try.underlying25 ?_ ?_ ?_ ?_ ?_ ?_
           · rfl
           · rfl
           · rfl
           · rfl
           · (rw [yC_size]; exact nonInfo))
        | (with_reducible refine load_b BK11 23 (.tmp 3) Try.underlying23 ?_ ?_ ?_ ?_ ?_ ?_
           · rfl
           · rfl
           · rfl
           · rfl
           · (rw [yC_size]; exact keyInfo)))
      refine (HST.out w11 _ n1 f1 (HS.out.2.1.kept K11) HB.out.1).mono ?_
      rintro e w12 ⟨gs, rfl, hgs, BS, k12⟩
      have K12 : Chg w w12 [] := K11.trans1 k12
      have BK12 := BK11.chg k12 (by simp)
      have BN12 := BN11.chg k12 (by simp)
      have BB12 := BB11.chg k12 (by simp)
      clear K11 k12 BK11 BN11 BB11
      go_wp2_with (first
        | (with_reducible refine load_b BN12 25 (.tmp 4) Try.underlying25 ?_ ?_ ?_ ?_ ?_ ?_
           · rfl
           · rfl
           · rfl
           · rfl
           · (rw [yC_size]; exact nonInfo))
        | (with_reducible refine load_b BK12 23 (.tmp 3) Try.underlying23 ?_ ?_ ?_ ?_ ?_ ?_
           · rfl
           · rfl
           · rfl
           · rfl
           · (rw [yC_size]; exact keyInfo)))
      have HSS : Hid (∀ i, i < n1 → xo f1 (ks k 1 nn) i < 256) := xo_lt HS.out.2.1.bd (ks_lt k 1 nn)
      refine (HST.out w12 _ n1 _ (BS.szn HSS.out (by have := HB.out; omega)) HB.out.1).mono ?_
      rw [xo_xo]
      rintro e w13 ⟨gu, rfl, hgu, BU, k13⟩
      have BS13 := BS.chg k13 (by simp)
      have K13 : Chg w w13 [] := K12.trans1 k13
      have BK13 := BK12.chg k13 (by simp)
      have BN13 := BN12.chg k13 (by simp)
      have BB13 := BB12.chg k13 (by simp)
      clear K12 k13 BK12 BN12 BB12
      go_wp2_with fail
      have q := SameBytes_z _ n1 f1 _ n1 f1 w13 (BU.szn HS.out.2.1.bd (by have := HB.out; omega)) (HS.out.2.1.kept K13)
      rw [sameB_self (fun _ _ => rfl)] at q
      refine q.mono ?_
      clear q
      rintro e w14 ⟨rfl, k14⟩
      have BS14 := BS13.chg k14 (by simp)
      have K14 : Chg w w14 [] := K13.trans1 k14
      have BK14 := BK13.chg k14 (by simp)
      have BN14 := BN13.chg k14 (by simp)
      have BB14 := BB13.chg k14 (by simp)
      clear K13 k14 BK13 BN13 BB13
      go_wp2_with fail
      have q := SameBytes_z _ n1 (xo f1 (ks k 1 nn)) (.slice (some ⟨gb, 0, none⟩) n1 M) n1 (xo f1 (ks k 1 nn)) w14 (BS14.szn HSS.out (by have := HB.out; omega)) (((BB14.sz (fun i hi => HZL.out i (by have := HM.out; omega)) 0 n1 M (by have := HM.out; omega) (by have := HM.out; omega) (by have := HM.out; have := HB.out; omega))).cg (fun i hi => by rw [Nat.zero_add]; exact HLO.out i hi))
      rw [sameB_self (fun _ _ => rfl)] at q
      refine q.mono ?_
      clear q
      rintro e w15 ⟨rfl, k15⟩
      go_wp2_with fail
      go_ret
      exact ⟨rfl, K14.trans1 k15⟩
    · clear HE2
      have K11 : Chg w w9 [] := K8.trans1 k9
      have BK11 := BK8.chg k9 (by simp)
      have BN11 := BN8.chg k9 (by simp)
      have BB11 := BB8.chg k9 (by simp)
      clear K8 k9 BK8 BN8 BB8
      go_wp2_with (first
        | (with_reducible refine load_b BN11 25 (.tmp 4) Try.underlying25 ?_ ?_ ?_ ?_ ?_ ?_
           · rfl
           · rfl
           · rfl
           · rfl
           · (rw [yC_size]; exact nonInfo))
        | (with_reducible refine load_b BK11 23 (.tmp 3) Try.underlying23 ?_ ?_ ?_ ?_ ?_ ?_
           · rfl
           · rfl
           · rfl
           · rfl
           · (rw [yC_size]; exact keyInfo)))
      refine (HST.out w9 _ n1 f1 (HS.out.2.1.kept K11) HB.out.1).mono ?_
      rintro e w12 ⟨gs, rfl, hgs, BS, k12⟩
      have K12 : Chg w w12 [] := K11.trans1 k12
      have BK12 := BK11.chg k12 (by simp)
      have BN12 := BN11.chg k12 (by simp)
      have BB12 := BB11.chg k12 (by simp)
      clear K11 k12 BK11 BN11 BB11
      go_wp2_with (first
        | (with_reducible refine load_b BN12 25 (.tmp 4) Try.underlying25 ?_ ?_ ?_ ?_ ?_ ?_
           · rfl
           · rfl
           · rfl
           · rfl
           · (rw [yC_size]; exact nonInfo))
        | (with_reducible refine load_b BK12 23 (.tmp 3) Try.underlying23 ?_ ?_ ?_ ?_ ?_ ?_
           · rfl
           · rfl
           · rfl
           · rfl
           · (rw [yC_size]; exact keyInfo)))
      have HSS : Hid (∀ i, i < n1 → xo f1 (ks k 1 nn) i < 256) := xo_lt HS.out.2.1.bd (ks_lt k 1 nn)
      refine (HST.out w12 _ n1 _ (BS.szn HSS.out (by have := HB.out; omega)) HB.out.1).mono ?_
      rw [xo_xo]
      rintro e w13 ⟨gu, rfl, hgu, BU, k13⟩
      have BS13 := BS.chg k13 (by simp)
      have K13 : Chg w w13 [] := K12.trans1 k13
      have BK13 := BK12.chg k13 (by simp)
      have BN13 := BN12.chg k13 (by simp)
      have BB13 := BB12.chg k13 (by simp)
      clear K12 k13 BK12 BN12 BB12
      go_wp2_with fail
      have q := SameBytes_z _ n1 f1 _ n1 f1 w13 (BU.szn HS.out.2.1.bd (by have := HB.out; omega)) (HS.out.2.1.kept K13)
      rw [sameB_self (fun _ _ => rfl)] at q
      refine q.mono ?_
      clear q
      rintro e w14 ⟨rfl, k14⟩
      have BS14 := BS13.chg k14 (by simp)
      have K14 : Chg w w14 [] := K13.trans1 k14
      have BK14 := BK13.chg k14 (by simp)
      have BN14 := BN13.chg k14 (by simp)
      have BB14 := BB13.chg k14 (by simp)
      clear K13 k14 BK13 BN13 BB13
      go_wp2_with fail
      have q := SameBytes_z _ n1 (xo f1 (ks k 1 nn)) (.slice (some ⟨gb, 0, none⟩) n1 M) n1 (xo f1 (ks k 1 nn)) w14 (BS14.szn HSS.out (by have := HB.out; omega)) (((BB14.sz (fun i hi => HZL.out i (by have := HM.out; omega)) 0 n1 M (by have := HM.out; omega) (by have := HM.out; omega) (by have := HM.out; have := HB.out; omega))).cg (fun i hi => by rw [Nat.zero_add]; exact HLO.out i hi))
      rw [sameB_self (fun _ _ => rfl)] at q
      refine q.mono ?_
      clear q
      rintro e w15 ⟨rfl, k15⟩
      go_wp2_with fail
      go_ret
      exact ⟨rfl, K14.trans1 k15⟩
end Go.Proofs.Ytpdbdaleheeldaa
