/- SealTurned: the walk. -/
import Derived.Test.YtpdbdaleheeldaaSeTuM
import Derived.Deep.DeepCutAuto
import Derived.Deep.CutBlock
set_option linter.unusedVariables false
set_option linter.unusedSimpArgs false
set_option linter.unnecessarySimpa false
namespace Go.Proofs.Ytpdbdaleheeldaa
open Go.RowKit

section
variable {P : Program} {ops : Array Oper} {Q : Exit → Act → World → Prop} {md : Region.Mode} {S : World → Prop} {B : Nat → Bool}
/-- Only one may come up, and its guard does not want it. -/
theorem lt_no {oi : Oper} {fuel : Nat} {listed : Array Bool} {a : Act} {w : World} (i : Nat) (d : Option Tmp) (hi : ops[i]? = some oi) (hr : Region.ready md ops listed = [i]) (hd : oi.dst = d) (hw : Region.wanted oi (yielded ops a.tmps) = false)
    (h : wpAnyL P md ops Q S B fuel (listed.setIfInBounds i true) (a.put d undef) w) : wpAnyL P md ops Q S B (fuel + 1) listed a w := by
  refine ⟨fun h0 => absurd (hr ▸ h0) (by simp), fun j hj => ?_⟩
  rw [hr] at hj
  obtain rfl : j = i := by simpa using hj
  refine wpOp_step hi (fun K' hK => ?_)
  rw [if_neg (by rw [hw]; decide), hd]
  exact hK _ w ⟨fun _ h => h, h⟩
end
theorem box_ca {P : Program} {w : World} {ops : Array Oper} {rest : List Oper} {op : Oper} {a : Act} {Q : Exit → Act → World → Prop} (hgd : op.guard = none) (ty : TypeId) (x : Operand) (ho : op.op = .box ty x) (cs : Array Value) (hx : a.eval x = .agg cs)
    (h : ∀ g w', w.heap.size ≤ g → Blk w' g cs ty → Chg w w' [] → wpList P ops Q rest (a.put op.dst (.pointer (some ⟨g, 0, none⟩))) w') : wpList P ops Q (op :: rest) a w := box_w hgd ty x ho cs (by rw [hx]; rfl) h
theorem up_xor0 (f : Nat → Nat) (j : Nat) : up f j (f j ^^^ 0) = f := by
  funext i
  unfold up
  by_cases h : i = j
  · subst h; rw [if_pos rfl, Nat.xor_zero]
  · rw [if_neg h]
def TuR (w wc : World) (gk gn g n0 M by' : Nat) (k nn f0 Z : Nat → Nat) (vo : Value) : Prop := ∃ (K' N' O' B' : Nat → Nat), ((∀ i, i < 32 → K' i < 256) ∧ (∀ i, i < 12 → N' i < 256) ∧ (∀ i, i < M → B' i < 256)) ∧ (by' = 0 → K' = k ∧ N' = nn ∧ O' = f0 ∧ B' = Z) ∧
  Blk wc gk (yC 32 K') 23 ∧ Blk wc gn (yC 12 N') 25 ∧ Sz wc vo n0 O' ∧ Blk wc g (yC M B') 5 ∧ Chg w wc []
set_option maxHeartbeats 16000000 in
set_option maxRecDepth 100000 in
theorem turned_walk (k nn : Nat → Nat) (hk : ∀ i, i < 32 → k i < 256) (hn : ∀ i, i < 12 → nn i < 256) (vO : Value) (n0 : Nat) (f0 : Nat → Nat) (vT : Value) (n1 : Nat) (f1 : Nat → Nat) (vX : Value) (n2 : Nat) (f2 : Nat → Nat) (at' : Int) (hat : -9223372036854775808 ≤ at' ∧ at' < 9223372036854775808) (by' : Nat) (hby : by' < 256) (w : World) (h0 : Sz w vO n0 f0) (h1 : Sz w vT n1 f1) (h2 : Sz w vX n2 f2) (b0 : n0 ≤ 1048576) (b1 : n1 ≤ 1048576) :
    Calls Try.prog 5 #[.agg (caC k nn vO vT vX at' by')] w fun e w' => e = .returned (.bool true) ∧ Chg w w' [] := by
  have HV : Hid ((Sz w vO n0 f0 ∧ Sz w vT n1 f1) ∧ n0 ≤ 1048576 ∧ n1 ≤ 1048576) := ⟨⟨h0, h1⟩, b0, b1⟩
  have HKN : Hid ((∀ i, i < 32 → k i < 256) ∧ (∀ i, i < 12 → nn i < 256)) := ⟨hk, hn⟩
  have HSE : Hid (∀ w' a b, Sz w' a n0 f0 → Sz w' b n1 f1 → Calls Try.prog 10 #[.agg (yC 32 k), .agg (yC 12 nn), a, b] w' fun e w'' => AnsB w' (n1 + 16) (sealB k nn n0 f0 n1 f1) e w'') := fun w' a b x y => Seal_s k nn hk hn a n0 f0 b n1 f1 w' x y (by omega)
  have HZL : Hid (∀ i, i < n1 + 16 → sealB k nn n0 f0 n1 f1 i < 256) := fun i hi => seal_lt h1.bd i hi
  have HOP : Hid (∀ (K' N' O' B' : Nat → Nat) w' a b, (∀ i, i < 32 → K' i < 256) → (∀ i, i < 12 → N' i < 256) → Sz w' a n0 O' → Sz w' b (n1 + 16) B' → Calls Try.prog 11 #[.agg (yC 32 K'), .agg (yC 12 N'), a, b] w' fun e w'' => OpQ w' (tagged K' N' n0 O' n1 B') n1 (xo B' (ks K' 1 N')) e w'') := fun K' N' O' B' w' a b x y p q => Open_s K' N' x y a n0 O' b n1 B' w' p q (by omega)
  have HTS : Hid (tagged k nn n0 f0 n1 (sealB k nn n0 f0 n1 f1) = true) := tagged_seal k nn n0 f0 n1 f1
  have HSB : Hid (∀ i, i < n1 → xo (sealB k nn n0 f0 n1 f1) (ks k 1 nn) i = f1 i) := fun i hi => seal_back k nn n0 f0 n1 f1 i hi
  obtain ⟨Z, hZ⟩ : ∃ Z, sealB k nn n0 f0 n1 f1 = Z := ⟨_, rfl⟩
  rw [hZ] at HSE HZL HTS HSB
  obtain ⟨p0, c0, e0, _⟩ := id h0
  obtain ⟨p1, c1, e1, _⟩ := id h1
  obtain ⟨p2, c2, e2, _⟩ := id h2
  subst e0 e1 e2
  have HAT : Hid ((-9223372036854775808 ≤ at' ∧ at' < 9223372036854775808) ∧ by' < 256) := ⟨hat, hby⟩
  obtain ⟨M, hM⟩ : ∃ M, n1 + 16 = M := ⟨_, rfl⟩
  have HM : Hid (n1 + 16 = M) := hM
  rw [hM] at HSE HZL
  clear h0 h1 h2 b0 b1 hk hn hZ hat hby hM
  go_enter Try.func5, Try.ntmps5
  go_wp2_with (first
    | (with_reducible refine box_ca ?_ 28 (.tmp 0) ?_ (caC k nn (.slice p0 n0 c0) (.slice p1 n1 c1) (.slice p2 n2 c2) at' by') ?_ ?_
       · rfl
       · rfl
       · rfl
       intro cb w1 hcb BC k1))
  refine lt_begin (fun w' => Blk w' cb (caC k nn (.slice p0 n0 c0) (.slice p1 n1 c1) (.slice p2 n2 c2) at' by') 28) (fun _ => false) (by kernel_rfl) ?_
  have hHeld := BC.drew
  replace k1 := k1.drew
  obtain ⟨z, hz⟩ : ∃ z, z = w1.drew := ⟨_, rfl⟩
  rw [← hz] at hHeld k1 ⊢
  clear hz BC
  refine lt_val (v := ?_) 0 (some 22) rfl (by kernel_rfl) (by kernel_rfl) (by kernel_rfl) (fun _ _ _ h => h) rfl rfl (fun w => ?_) ?_
  rotate_left
  · (go_simp; try with_reducible rfl)
  try simp only [Act.put, List.setIfInBounds_toArray, List.set_cons_zero, List.set_cons_succ]
  refine lt_read (v := (.agg (yC 32 k))) 1 (some 23) rfl (by kernel_rfl) (by kernel_rfl) (by kernel_rfl) (by kernel_rfl) (fun _ _ _ h => h) rfl rfl (fun w hSw => ?_) hHeld ?_
  · skip; exact (exec_load_m w 23 (.tmp 22) rfl cb 0 rfl (yL 32 k) _ (fun j x hj => by obtain ⟨q1, rfl⟩ := yL_some _ _ _ _ hj; rw [Nat.zero_add, hSw.cell, caC_k _ _ _ _ _ _ _ _ q1]) Try.underlying23 rfl (by rw [yL_len]; exact keyInfo))
  try simp only [Act.put, List.setIfInBounds_toArray, List.set_cons_zero, List.set_cons_succ]
  refine lt_val (v := ?_) 2 (some 24) rfl (by kernel_rfl) (by kernel_rfl) (by kernel_rfl) (fun _ _ _ h => h) rfl rfl (fun w => ?_) ?_
  rotate_left
  · (go_simp; try with_reducible rfl)
  try simp only [Act.put, List.setIfInBounds_toArray, List.set_cons_zero, List.set_cons_succ]
  refine lt_read (v := (.agg (yC 12 nn))) 3 (some 25) rfl (by kernel_rfl) (by kernel_rfl) (by kernel_rfl) (by kernel_rfl) (fun _ _ _ h => h) rfl rfl (fun w hSw => ?_) hHeld ?_
  · skip; exact (exec_load_m w 25 (.tmp 24) rfl cb 32 rfl (yL 12 nn) _ (fun j x hj => by obtain ⟨q1, rfl⟩ := yL_some _ _ _ _ hj; rw [hSw.cell, caC_n _ _ _ _ _ _ _ _ q1]) Try.underlying25 rfl (by rw [yL_len]; exact nonInfo))
  try simp only [Act.put, List.setIfInBounds_toArray, List.set_cons_zero, List.set_cons_succ]
  refine lt_val (v := ?_) 4 (some 26) rfl (by kernel_rfl) (by kernel_rfl) (by kernel_rfl) (fun _ _ _ h => h) rfl rfl (fun w => ?_) ?_
  rotate_left
  · (go_simp; try with_reducible rfl)
  try simp only [Act.put, List.setIfInBounds_toArray, List.set_cons_zero, List.set_cons_succ]
  refine lt_read (v := (.slice p0 n0 c0)) 5 (some 27) rfl (by kernel_rfl) (by kernel_rfl) (by kernel_rfl) (by kernel_rfl) (fun _ _ _ h => h) rfl rfl (fun w hSw => ?_) hHeld ?_
  · have qc := (hSw.cell 44).trans (caC_44 k nn _ _ _ at' by'); (go_simp; try with_reducible rfl)
  try simp only [Act.put, List.setIfInBounds_toArray, List.set_cons_zero, List.set_cons_succ]
  refine lt_val (v := ?_) 6 (some 28) rfl (by kernel_rfl) (by kernel_rfl) (by kernel_rfl) (fun _ _ _ h => h) rfl rfl (fun w => ?_) ?_
  rotate_left
  · (go_simp; try with_reducible rfl)
  try simp only [Act.put, List.setIfInBounds_toArray, List.set_cons_zero, List.set_cons_succ]
  refine lt_read (v := (.slice p1 n1 c1)) 7 (some 29) rfl (by kernel_rfl) (by kernel_rfl) (by kernel_rfl) (by kernel_rfl) (fun _ _ _ h => h) rfl rfl (fun w hSw => ?_) hHeld ?_
  · have qc := (hSw.cell 45).trans (caC_45 k nn _ _ _ at' by'); (go_simp; try with_reducible rfl)
  try simp only [Act.put, List.setIfInBounds_toArray, List.set_cons_zero, List.set_cons_succ]
  refine lt_val (v := ?_) 8 (some 30) rfl (by kernel_rfl) (by kernel_rfl) (by kernel_rfl) (fun _ _ _ h => h) rfl rfl (fun w => ?_) ?_
  rotate_left
  · (go_simp; try with_reducible rfl)
  try simp only [Act.put, List.setIfInBounds_toArray, List.set_cons_zero, List.set_cons_succ]
  refine lt_read (v := (.int .i64 at')) 9 (some 31) rfl (by kernel_rfl) (by kernel_rfl) (by kernel_rfl) (by kernel_rfl) (fun _ _ _ h => h) rfl rfl (fun w hSw => ?_) hHeld ?_
  · have qc := (hSw.cell 47).trans (caC_47 k nn _ _ _ at' by'); (go_simp; try with_reducible rfl)
  try simp only [Act.put, List.setIfInBounds_toArray, List.set_cons_zero, List.set_cons_succ]
  refine lt_val (v := ?_) 10 (some 32) rfl (by kernel_rfl) (by kernel_rfl) (by kernel_rfl) (fun _ _ _ h => h) rfl rfl (fun w => ?_) ?_
  rotate_left
  · (go_simp; try with_reducible rfl)
  try simp only [Act.put, List.setIfInBounds_toArray, List.set_cons_zero, List.set_cons_succ]
  refine lt_read (v := (.int .u8 (by' : Int))) 11 (some 33) rfl (by kernel_rfl) (by kernel_rfl) (by kernel_rfl) (by kernel_rfl) (fun _ _ _ h => h) rfl rfl (fun w hSw => ?_) hHeld ?_
  · have qc := (hSw.cell 48).trans (caC_48 k nn _ _ _ at' by'); (go_simp; try with_reducible rfl)
  try simp only [Act.put, List.setIfInBounds_toArray, List.set_cons_zero, List.set_cons_succ]
  refine lt_two 12 13 rfl rfl (by kernel_rfl) (by kernel_rfl) (by kernel_rfl) rfl rfl (by decide) 23 25 rfl rfl (.agg (yC 32 z0)) (.agg (yC 12 z0)) zeroKey zeroNon (yC 32 z0) (yC 12 z0) rfl rfl 3 4 rfl rfl (by decide) (fun _ _ k h => h.chg k (by simp)) ?_
  intro kb nb w2 hkb hnb hkn BK BN k2
  try simp only [Act.put, List.setIfInBounds_toArray, List.set_cons_zero, List.set_cons_succ]
  refine lt_one 14 rfl (by kernel_rfl) rfl (fun K hK => ?_)
  refine wp_store_w BK 23 _ _ (yC 32 k) rfl rfl rfl (by rw [yC_size]; exact keyInfo) (by rw [yC_size, yC_size]) (yC_one 32 _) ?_
  intro w3 BK3 k3
  change K (Act.put _ none _) _
  have HCB : Hid (¬ cb = kb ∧ ¬ cb = nb) := ⟨by have := hHeld.lt; omega, by have := hHeld.lt; omega⟩
  refine hK.out _ _ (fun _ h => h.chg k3 (by have := HCB.out; simp; omega)) ?_
  clear hK K
  try simp only [Act.put, List.setIfInBounds_toArray, List.set_cons_zero, List.set_cons_succ]
  refine lt_one 15 rfl (by kernel_rfl) rfl (fun K hK => ?_)
  refine wp_store_w (BN.chg k3 (by simp; omega)) 25 _ _ (yC 12 nn) rfl rfl rfl (by rw [yC_size]; exact nonInfo) (by rw [yC_size, yC_size]) (yC_one 12 _) ?_
  intro w4 BN4 k4
  change K (Act.put _ none _) _
  refine hK.out _ _ (fun _ h => h.chg k4 (by have := HCB.out; simp; omega)) ?_
  clear hK K
  try simp only [Act.put, List.setIfInBounds_toArray, List.set_cons_zero, List.set_cons_succ]
  refine lt_val (v := ?_) 16 (some 5) rfl (by kernel_rfl) (by kernel_rfl) (by kernel_rfl) (fun _ _ _ h => h) rfl rfl (fun w => ?_) ?_
  rotate_left
  · (go_simp; try with_reducible rfl)
  try simp only [Act.put, List.setIfInBounds_toArray, List.set_cons_zero, List.set_cons_succ]
  refine lt_val (v := ?_) 17 (some 6) rfl (by kernel_rfl) (by kernel_rfl) (by kernel_rfl) (fun _ _ _ h => h) rfl rfl (fun w => ?_) ?_
  rotate_left
  · (go_simp; try with_reducible rfl)
  try simp only [Act.put, List.setIfInBounds_toArray, List.set_cons_zero, List.set_cons_succ]
  refine lt_val (v := ?_) 18 (some 7) rfl (by kernel_rfl) (by kernel_rfl) (by kernel_rfl) (fun _ _ _ h => h) rfl rfl (fun w => ?_) ?_
  rotate_left
  · (go_simp; try with_reducible rfl)
  try simp only [Act.put, List.setIfInBounds_toArray, List.set_cons_zero, List.set_cons_succ]
  refine lt_val (v := ?_) 19 (some 8) rfl (by kernel_rfl) (by kernel_rfl) (by kernel_rfl) (fun _ _ _ h => h) rfl rfl (fun w => ?_) ?_
  rotate_left
  · (go_simp; try with_reducible rfl)
  try simp only [Act.put, List.setIfInBounds_toArray, List.set_cons_zero, List.set_cons_succ]
  refine lt_done (by kernel_rfl) ?_ _
  have hs1 := k1.size
  have K4 : Chg w w4 [] := ((k1.trans1 k2).new k3 (by omega)).new k4 (by omega)
  have BK4 := BK3.chg k4 (by simp; omega)
  clear k1 k2 k3 k4 BK BN BK3 hHeld hcb hkb hnb hkn hs1 HCB
  go_wp2_with fail
  refine (works_s w4).mono ?_
  rintro e w5 ⟨rfl, k5⟩
  have K5 : Chg w w5 [] := K4.trans1 k5
  have BK5 := BK4.chg k5 (by simp)
  have BN5 := BN4.chg k5 (by simp)
  clear K4 BK4 BN4 k5
  go_wp2_with (first
    | (with_reducible refine load_b BK5 23 (.tmp 3) Try.underlying23 ?_ ?_ ?_ ?_ ?_ ?_
       · rfl
       · rfl
       · rfl
       · rfl
       · (rw [yC_size]; exact keyInfo))
    | (with_reducible refine load_b BN5 25 (.tmp 4) Try.underlying25 ?_ ?_ ?_ ?_ ?_ ?_
       · rfl
       · rfl
       · rfl
       · rfl
       · (rw [yC_size]; exact nonInfo)))
  refine (HSE.out w5 _ _ (HV.out.1.1.kept K5) (HV.out.1.2.kept K5)).mono ?_
  rintro e w6 ⟨g, rfl, hg, BG6, k6⟩
  have K6 := K5.trans1 k6
  have BK6 := BK5.chg k6 (by simp)
  have BN6 := BN5.chg k6 (by simp)
  have HGW : Hid (w.heap.size ≤ g) := Nat.le_trans K5.size hg
  clear K5 BK5 BN5 k6 hg
  go_wp2_with fail
  refine (CopyBytes_z (.slice p0 n0 c0) n0 f0 w6 (by have := HV.out; omega) (HV.out.1.1.kept K6)).mono ?_
  rintro e w7 ⟨vo, rfl, O7, k7⟩
  have K7 := K6.trans1 k7
  have BK7 := BK6.chg k7 (by simp)
  have BN7 := BN6.chg k7 (by simp)
  have BG7 := BG6.chg k7 (by simp)
  have HOG : Hid (∀ x, x ∈ ob vo → ¬ x = g ∧ w.heap.size ≤ x) := fun x hx => by
    have q1 := (O7.ob_ge x hx).1
    have q2 := BG6.lt
    have q3 := K6.size
    exact ⟨by omega, by omega⟩
  clear K6 BK6 BN6 BG6 k7
  obtain ⟨po, co, rfl⟩ := O7.form2
  obtain ⟨S, hS⟩ : ∃ S, M + n0 = S := ⟨_, rfl⟩
  obtain ⟨T, hT⟩ : ∃ T, S + 44 = T := ⟨_, rfl⟩
  have HST : Hid (M + n0 = S ∧ S + 44 = T ∧ T ≤ 3000000) := ⟨hS, hT, by have := HV.out; have := HM.out; omega⟩
  have hB := HST.out
  have d1 : IntKind.i64.wrap ((M : Int) + (n0 : Int)) = (S : Int) := by rw [IntKind.wrap_i64]; omega
  have d1b : (M : Int) + (n0 : Int) = (S : Int) := by omega
  have d1c : IntKind.i64.wrap (S : Int) = (S : Int) := by rw [IntKind.wrap_i64]; omega
  have d2 : IntKind.i64.wrap ((S : Int) + 44) = (T : Int) := by rw [IntKind.wrap_i64]; omega
  have d2b : (S : Int) + 44 = (T : Int) := by omega
  have d2c : IntKind.i64.wrap (T : Int) = (T : Int) := by rw [IntKind.wrap_i64]; omega
  have d3 : ¬ (T : Int) = 0 := by omega
  have r1 := Int.tmod_lt_of_pos at' (show (0 : Int) < (T : Int) by omega)
  have r2 := Int.lt_tmod_of_pos at' (show (0 : Int) < (T : Int) by omega)
  obtain ⟨r, hr⟩ : ∃ r, Int.tmod at' (T : Int) = r := ⟨_, rfl⟩
  rw [hr] at r1 r2
  have d4 : IntKind.i64.wrap r = r := by rw [IntKind.wrap_i64]; omega
  have HR : Hid (r < (T : Int) ∧ -(T : Int) < r) := ⟨r1, r2⟩
  clear hS hT hB r1 r2
  go_upto_if 53 with fail
  go_cut [12] (fun t12 wc => ∃ i : Nat, i < T ∧ t12 = .int .i64 (i : Int) ∧ Chg w7 wc [])
  case first =>
    have hR := HR.out
    by_cases q : r < 0
    · obtain ⟨j, hj⟩ := Int.eq_ofNat_of_zero_le (show 0 ≤ r + (T : Int) by omega)
      have e1 : IntKind.i64.wrap (r + (T : Int)) = (j : Int) := by rw [hj, IntKind.wrap_i64]; have := HST.out; omega
      have e2 : r + (T : Int) = (j : Int) := hj
      have e3 : IntKind.i64.wrap (j : Int) = (j : Int) := by rw [IntKind.wrap_i64]; have := HST.out; omega
      have HJ : Hid (j < T) := (by omega : j < T)
      clear hR hj
      go_wp2_with fail
      go_meet
      case rel => exact ⟨j, HJ.out, rfl, Chg.refl _ _⟩
    · obtain ⟨j, rfl⟩ := Int.eq_ofNat_of_zero_le (show 0 ≤ r by omega)
      have HJ : Hid (j < T) := (by omega : j < T)
      clear hR
      go_wp2_with fail
      go_meet
      case rel => exact ⟨j, HJ.out, rfl, Chg.refl _ _⟩
  case rest =>
    obtain ⟨i, hi, rfl, k8⟩ := hcut
    obtain ⟨w8, rfl⟩ : ∃ z, z = wc := ⟨wc, rfl⟩
    have K8 := K7.trans1 k8
    have BK8 := BK7.chg k8 (by simp)
    have BN8 := BN7.chg k8 (by simp)
    have BG8 := BG7.chg k8 (by simp)
    have O8 := O7.chg k8 (by simp)
    have HI : Hid (i < T) := hi
    clear K7 BK7 BN7 BG7 O7 k8 hi d1 d1b d1c d2 d2b d2c d3 d4 hr HR
    go_wp2_with fail
    refine lt_begin (fun w' => Blk w' kb (yC 32 k) 23 ∧ Blk w' nb (yC 12 nn) 25) (fun _ => false) (by kernel_rfl) ?_
    have hHeld := And.intro BK8.drew BN8.drew
    have BG9 := BG8.drew
    have O9 := O8.chg ((Chg.refl w8 []).drew) (by simp)
    have K9 := K8.drew
    obtain ⟨z, hz⟩ : ∃ z, z = w8.drew := ⟨_, rfl⟩
    rw [← hz] at hHeld BG9 O9 K9 ⊢
    clear hz BK8 BN8 BG8 O8 K8
    refine lt_read (v := (.agg (yC 32 k))) 0 (some 57) rfl (by kernel_rfl) (by kernel_rfl) (by kernel_rfl) (by kernel_rfl) (fun _ _ _ h => h) rfl rfl (fun w hSw => ?_) hHeld ?_
    · skip; exact (exec_load_b w 23 (.tmp 3) rfl kb rfl hSw.1 Try.underlying23 rfl (by rw [yC_size]; exact keyInfo))
    try simp only [Act.put, List.setIfInBounds_toArray, List.set_cons_zero, List.set_cons_succ]
    refine lt_read (v := (.agg (yC 12 nn))) 1 (some 58) rfl (by kernel_rfl) (by kernel_rfl) (by kernel_rfl) (by kernel_rfl) (fun _ _ _ h => h) rfl rfl (fun w hSw => ?_) hHeld ?_
    · skip; exact (exec_load_b w 25 (.tmp 4) rfl nb rfl hSw.2 Try.underlying25 rfl (by rw [yC_size]; exact nonInfo))
    try simp only [Act.put, List.setIfInBounds_toArray, List.set_cons_zero, List.set_cons_succ]
    refine lt_two 2 3 rfl rfl (by kernel_rfl) (by kernel_rfl) (by kernel_rfl) rfl rfl (by decide) 23 25 rfl rfl (.agg (yC 32 z0)) (.agg (yC 12 z0)) zeroKey zeroNon (yC 32 z0) (yC 12 z0) rfl rfl 13 14 rfl rfl (by decide) (fun _ _ k h => ⟨h.1.chg k (by simp), h.2.chg k (by simp)⟩) ?_
    intro gk gn w9 hgk hgn hkn BGK BGN k9
    have HGK : Hid ((w.heap.size ≤ gk ∧ w.heap.size ≤ gn ∧ ¬ gk = gn) ∧ (¬ gk = kb ∧ ¬ gk = nb ∧ ¬ gn = kb ∧ ¬ gn = nb) ∧ (¬ g = gk ∧ ¬ g = gn) ∧ ∀ x, x ∈ ob (.slice po n0 co) → ¬ x = gk ∧ ¬ x = gn) := ⟨⟨by have := K9.size; omega, by have := K9.size; omega, hkn⟩, ⟨by have := hHeld.1.lt; omega, by have := hHeld.2.lt; omega, by have := hHeld.1.lt; omega, by have := hHeld.2.lt; omega⟩, ⟨by have := BG9.lt; omega, by have := BG9.lt; omega⟩, fun x hx => by have := (O9.ob_ge x hx).2; exact ⟨by omega, by omega⟩⟩
    try simp only [Act.put, List.setIfInBounds_toArray, List.set_cons_zero, List.set_cons_succ]
    refine lt_one 4 rfl (by kernel_rfl) rfl (fun K hK => ?_)
    refine wp_store_w BGK 23 _ _ (yC 32 k) rfl rfl rfl (by rw [yC_size]; exact keyInfo) (by rw [yC_size, yC_size]) (yC_one 32 _) ?_
    intro w10 BGK2 k10
    change K (Act.put _ none _) _
    refine hK.out _ _ (fun _ h => ⟨h.1.chg k10 (by have := HGK.out; simp; omega), h.2.chg k10 (by have := HGK.out; simp; omega)⟩) ?_
    clear hK K
    try simp only [Act.put, List.setIfInBounds_toArray, List.set_cons_zero, List.set_cons_succ]
    refine lt_one 5 rfl (by kernel_rfl) rfl (fun K hK => ?_)
    refine wp_store_w (BGN.chg k10 (by have := HGK.out; simp; omega)) 25 _ _ (yC 12 nn) rfl rfl rfl (by rw [yC_size]; exact nonInfo) (by rw [yC_size, yC_size]) (yC_one 12 _) ?_
    intro w11 BGN2 k11
    change K (Act.put _ none _) _
    refine hK.out _ _ (fun _ h => ⟨h.1.chg k11 (by have := HGK.out; simp; omega), h.2.chg k11 (by have := HGK.out; simp; omega)⟩) ?_
    clear hK K
    try simp only [Act.put, List.setIfInBounds_toArray, List.set_cons_zero, List.set_cons_succ]
    refine lt_done (by kernel_rfl) ?_ _
    have BGK11 := BGK2.chg k11 (by have := HGK.out; simp; omega)
    have BG11 := ((BG9.chg k9 (by simp)).chg k10 (by have := HGK.out; simp; omega)).chg k11 (by have := HGK.out; simp; omega)
    have O11 := ((O9.chg k9 (by simp)).chg k10 (fun x hx h => (HGK.out.2.2.2 x hx).1 (by simpa using h))).chg k11 (fun x hx h => (HGK.out.2.2.2 x hx).2 (by simpa using h))
    have K11 : Chg w w11 [] := ((K9.trans1 k9).new k10 HGK.out.1.1).new k11 HGK.out.1.2.1
    clear hHeld BG9 O9 K9 BGK BGN BGK2 k9 k10 k11 hgk hgn hkn
    go_upto_block 0 with fail
    go_cut [9] (fun t9 wc => t9 = .slice (some ⟨g, 0, none⟩) M M ∧ TuR w wc gk gn g n0 M by' k nn f0 Z (.slice po n0 co))
    case first =>
      have hB := HST.out
      have d1 : IntKind.i64.wrap ((M : Int) + (n0 : Int)) = (S : Int) := by rw [IntKind.wrap_i64]; omega
      have d1b : (M : Int) + (n0 : Int) = (S : Int) := by omega
      have d1c : IntKind.i64.wrap (S : Int) = (S : Int) := by rw [IntKind.wrap_i64]; omega
      by_cases q1 : i < M
      · have i1 : (i : Int) < (M : Int) := by omega
        have cx := (BG11.cell i).trans (yC_get M Z i q1)
        have fx := BG11.frozen i
        obtain ⟨y, hy⟩ : ∃ y, Z i = y := ⟨_, rfl⟩
        obtain ⟨x, hx⟩ : ∃ x, y ^^^ by' = x := ⟨_, rfl⟩
        have hyb : y < 256 := by rw [← hy]; exact HZL.out i q1
        have hxb : x < 256 := by rw [← hx]; exact Nat.xor_lt_two_pow (n := 8) hyb HAT.out.2
        have ex : bits .xor .u8 (y : Int) (by' : Int) = (x : Int) := by rw [u8_xor_nat _ _ hyb HAT.out.2, hx]
        have HUP : Hid ((by' = 0 → up Z i x = Z) ∧ ∀ j, j < M → up Z i x j < 256) := ⟨fun e => by rw [← hx, ← hy, e]; exact up_xor0 Z i, fun j hj => by unfold up; split; exact hxb; exact HZL.out j hj⟩
        rw [hy] at cx
        have b2 := (BG11.setCell i (.int .u8 ((x : Nat) : Int))).to (yC_set M Z i x)
        have bk2 := BGK11.setOther (show ¬ gk = g from fun e => HGK.out.2.2.1.1 e.symm) i (.int .u8 ((x : Nat) : Int))
        have bn2 := BGN2.setOther (show ¬ gn = g from fun e => HGK.out.2.2.1.2 e.symm) i (.int .u8 ((x : Nat) : Int))
        have K12 := K11.setNew HGW.out i (.int .u8 ((x : Nat) : Int))
        have kk := (Chg.refl w11 [g]).setIn (k := g) (by simp) i (.int .u8 ((x : Nat) : Int))
        have so := O11.sz.chg kk (fun g' o' n' c' h0' e hm => by
          have e2 : g' = g := by simpa using hm
          subst e2
          exact (HOG.out g' (by rw [e]; simp [ob, Value.ownBlock])).1 rfl)
        clear hy hx hyb hxb hB q1 BG11 BGK11 BGN2 K11 O11 kk
        go_wp2_with fail
        go_meet
        case rel => exact ⟨rfl, k, nn, f0, up Z i x, ⟨HKN.out.1, HKN.out.2, HUP.out.2⟩, fun e => ⟨rfl, rfl, rfl, HUP.out.1 e⟩, bk2, bn2, so, b2, K12⟩
      · have i1 : ¬ (i : Int) < (M : Int) := by omega
        obtain ⟨u, hu⟩ : ∃ u, i - M = u := ⟨_, rfl⟩
        have u1 : IntKind.i64.wrap ((i : Int) - (M : Int)) = (u : Int) := by have := HI.out; rw [IntKind.wrap_i64]; omega
        have u1b : (i : Int) - (M : Int) = (u : Int) := by omega
        have u1c : IntKind.i64.wrap (u : Int) = (u : Int) := by have := HI.out; rw [IntKind.wrap_i64]; omega
        by_cases q2 : i < S
        · have i2 : (i : Int) < (S : Int) := by omega
          have hun : u < n0 := by omega
          have i3 : (u : Int) < (n0 : Int) := by omega
          obtain ⟨g2, c2, C, e2, hg2, hc2, hc3, BO, LO⟩ := O11.lo (by omega)
          simp only [Value.slice.injEq, true_and] at e2
          obtain ⟨rfl, rfl⟩ := e2
          have hg2g := HOG.out g2 (by simp [ob, Value.ownBlock])
          have hgg := HGK.out.2.2.2 g2 (by simp [ob, Value.ownBlock])
          have cx := (BO.cell u).trans (LO u hun)
          have fx := BO.frozen u
          obtain ⟨y, hy⟩ : ∃ y, f0 u = y := ⟨_, rfl⟩
          obtain ⟨x, hx⟩ : ∃ x, y ^^^ by' = x := ⟨_, rfl⟩
          have hyb : y < 256 := by rw [← hy]; exact O11.2 u hun
          have hxb : x < 256 := by rw [← hx]; exact Nat.xor_lt_two_pow (n := 8) hyb HAT.out.2
          have ex : bits .xor .u8 (y : Int) (by' : Int) = (x : Int) := by rw [u8_xor_nat _ _ hyb HAT.out.2, hx]
          have HUP : Hid (by' = 0 → up f0 u x = f0) := fun e => by rw [← hx, ← hy, e]; exact up_xor0 f0 u
          rw [hy] at cx
          have bo2 := BO.setCell u (.int .u8 ((x : Nat) : Int))
          have so : Sz (w11.setCell ⟨g2, u, none⟩ (.int .u8 ((x : Nat) : Int))) (.slice (some ⟨g2, 0, none⟩) n0 co) n0 (up f0 u x) := by
            have q := (LO.set u x).sz bo2 (Lo.bd (C := C) O11.2 u x hxb) 0 n0 co (by omega) hc2 hc3
            simpa using q
          have bg2 := BG11.setOther (show ¬ g = g2 from fun e => hg2g.1 e.symm) u (.int .u8 ((x : Nat) : Int))
          have bk2 := BGK11.setOther (show ¬ gk = g2 from fun e => hgg.1 e.symm) u (.int .u8 ((x : Nat) : Int))
          have bn2 := BGN2.setOther (show ¬ gn = g2 from fun e => hgg.2 e.symm) u (.int .u8 ((x : Nat) : Int))
          have K12 := K11.setNew hg2g.2 u (.int .u8 ((x : Nat) : Int))
          clear hy hx hyb hxb hB q1 q2 BG11 BGK11 BGN2 K11 O11 BO LO bo2 hg2 hc2 hc3 hg2g hgg hu hun
          go_wp2_with fail
          go_meet
          case rel => exact ⟨rfl, k, nn, up f0 u x, Z, ⟨HKN.out.1, HKN.out.2, HZL.out⟩, fun e => ⟨rfl, rfl, HUP.out e, rfl⟩, bk2, bn2, so, bg2, K12⟩
        · have i2 : ¬ (i : Int) < (S : Int) := by omega
          obtain ⟨U, hU⟩ : ∃ U, S + 32 = U := ⟨_, rfl⟩
          have s1 : IntKind.i64.wrap ((S : Int) + 32) = (U : Int) := by rw [IntKind.wrap_i64]; omega
          have s1b : (S : Int) + 32 = (U : Int) := by omega
          have s1c : IntKind.i64.wrap (U : Int) = (U : Int) := by rw [IntKind.wrap_i64]; omega
          obtain ⟨v, hv⟩ : ∃ v, u - n0 = v := ⟨_, rfl⟩
          have v1 : IntKind.i64.wrap ((u : Int) - (n0 : Int)) = (v : Int) := by have := HI.out; rw [IntKind.wrap_i64]; omega
          have v1b : (u : Int) - (n0 : Int) = (v : Int) := by omega
          have v1c : IntKind.i64.wrap (v : Int) = (v : Int) := by have := HI.out; rw [IntKind.wrap_i64]; omega
          by_cases q3 : i < U
          · have i3 : (i : Int) < (U : Int) := by omega
            have hv32 : v < 32 := by omega
            have i4 : (v : Int) < 32 := by omega
            have cx := (BGK11.cell v).trans (yC_get 32 k v hv32)
            have fx := BGK11.frozen v
            obtain ⟨y, hy⟩ : ∃ y, k v = y := ⟨_, rfl⟩
            obtain ⟨x, hx⟩ : ∃ x, y ^^^ by' = x := ⟨_, rfl⟩
            have hyb : y < 256 := by rw [← hy]; exact HKN.out.1 v hv32
            have hxb : x < 256 := by rw [← hx]; exact Nat.xor_lt_two_pow (n := 8) hyb HAT.out.2
            have ex : bits .xor .u8 (y : Int) (by' : Int) = (x : Int) := by rw [u8_xor_nat _ _ hyb HAT.out.2, hx]
            have HUP : Hid ((by' = 0 → up k v x = k) ∧ ∀ j, j < 32 → up k v x j < 256) := ⟨fun e => by rw [← hx, ← hy, e]; exact up_xor0 k v, fun j hj => by unfold up; split; exact hxb; exact HKN.out.1 j hj⟩
            rw [hy] at cx
            have bk2 := (BGK11.setCell v (.int .u8 ((x : Nat) : Int))).to (yC_set 32 k v x)
            have bg2 := BG11.setOther (show ¬ g = gk from HGK.out.2.2.1.1) v (.int .u8 ((x : Nat) : Int))
            have bn2 := BGN2.setOther (show ¬ gn = gk from fun e => HGK.out.1.2.2 e.symm) v (.int .u8 ((x : Nat) : Int))
            have K12 := K11.setNew HGK.out.1.1 v (.int .u8 ((x : Nat) : Int))
            have kk := (Chg.refl w11 [gk]).setIn (k := gk) (by simp) v (.int .u8 ((x : Nat) : Int))
            have so := O11.sz.chg kk (fun g' o' n' c' h0' e hm => by
              have e2 : g' = gk := by simpa using hm
              subst e2
              exact (HGK.out.2.2.2 g' (by rw [e]; simp [ob, Value.ownBlock])).1 rfl)
            clear hy hx hyb hxb hB q1 q2 q3 BG11 BGK11 BGN2 K11 O11 kk hu hU hv hv32
            go_wp2_with fail
            go_meet
            case rel => exact ⟨rfl, up k v x, nn, f0, Z, ⟨HUP.out.2, HKN.out.2, HZL.out⟩, fun e => ⟨HUP.out.1 e, rfl, rfl, rfl⟩, bk2, bn2, so, bg2, K12⟩
          · have i3 : ¬ (i : Int) < (U : Int) := by omega
            obtain ⟨t, ht⟩ : ∃ t, v - 32 = t := ⟨_, rfl⟩
            have t1 : IntKind.i64.wrap ((v : Int) - 32) = (t : Int) := by have := HI.out; rw [IntKind.wrap_i64]; omega
            have t1b : (v : Int) - 32 = (t : Int) := by omega
            have t1c : IntKind.i64.wrap (t : Int) = (t : Int) := by have := HI.out; rw [IntKind.wrap_i64]; omega
            have ht12 : t < 12 := by have := HI.out; omega
            have i4 : (t : Int) < 12 := by omega
            have cx := (BGN2.cell t).trans (yC_get 12 nn t ht12)
            have fx := BGN2.frozen t
            obtain ⟨y, hy⟩ : ∃ y, nn t = y := ⟨_, rfl⟩
            obtain ⟨x, hx⟩ : ∃ x, y ^^^ by' = x := ⟨_, rfl⟩
            have hyb : y < 256 := by rw [← hy]; exact HKN.out.2 t ht12
            have hxb : x < 256 := by rw [← hx]; exact Nat.xor_lt_two_pow (n := 8) hyb HAT.out.2
            have ex : bits .xor .u8 (y : Int) (by' : Int) = (x : Int) := by rw [u8_xor_nat _ _ hyb HAT.out.2, hx]
            have HUP : Hid ((by' = 0 → up nn t x = nn) ∧ ∀ j, j < 12 → up nn t x j < 256) := ⟨fun e => by rw [← hx, ← hy, e]; exact up_xor0 nn t, fun j hj => by unfold up; split; exact hxb; exact HKN.out.2 j hj⟩
            rw [hy] at cx
            have bn2 := (BGN2.setCell t (.int .u8 ((x : Nat) : Int))).to (yC_set 12 nn t x)
            have bg2 := BG11.setOther (show ¬ g = gn from HGK.out.2.2.1.2) t (.int .u8 ((x : Nat) : Int))
            have bk2 := BGK11.setOther (show ¬ gk = gn from HGK.out.1.2.2) t (.int .u8 ((x : Nat) : Int))
            have K12 := K11.setNew HGK.out.1.2.1 t (.int .u8 ((x : Nat) : Int))
            have kk := (Chg.refl w11 [gn]).setIn (k := gn) (by simp) t (.int .u8 ((x : Nat) : Int))
            have so := O11.sz.chg kk (fun g' o' n' c' h0' e hm => by
              have e2 : g' = gn := by simpa using hm
              subst e2
              exact (HGK.out.2.2.2 g' (by rw [e]; simp [ob, Value.ownBlock])).2 rfl)
            clear hy hx hyb hxb hB q1 q2 q3 BG11 BGK11 BGN2 K11 O11 kk hu hU hv ht ht12
            go_wp2_with fail
            go_meet
            case rel => exact ⟨rfl, k, up nn t x, f0, Z, ⟨HKN.out.1, HUP.out.2, HZL.out⟩, fun e => ⟨rfl, HUP.out.1 e, rfl, rfl⟩, bk2, bn2, so, bg2, K12⟩
    case rest =>
      obtain ⟨rfl, hTU⟩ := hcut
      unfold TuR at hTU
      obtain ⟨K', N', O', B', ⟨hk', hn', hb'⟩, hz, b1, b2, b3, b4, K12⟩ := hTU
      obtain ⟨w12, rfl⟩ : ∃ z, z = wc := ⟨wc, rfl⟩
      have HZ0 : Hid (by' = 0 → tagged K' N' n0 O' n1 B' = true ∧ ∀ i, i < n1 → xo B' (ks K' 1 N') i = f1 i) := fun e => by
        obtain ⟨e1, e2, e3, e4⟩ := hz e
        rw [e1, e2, e3, e4]
        exact ⟨HTS.out, HSB.out⟩
      have HMT : Hid (macB (bkB (st0 K' 0 N')) (pd n0 + pd n1 + 8 + 8) (tuF n0 O' n1 B') = tagT K' N' n0 O' n1 B') := mac_tuF K' N' _ n0 O' n1 B' (fun _ _ => rfl)
      have HTG : Hid (tagged K' N' n0 O' n1 B' = eqn 16 (fun i => B' (n1 + i)) (tagT K' N' n0 O' n1 B')) := rfl
      have HOQ : Hid (∀ w' a b, Sz w' a n0 O' → Sz w' b (n1 + 16) B' → Calls Try.prog 11 #[.agg (yC 32 K'), .agg (yC 12 N'), a, b] w' fun e w'' => OpQ w' (tagged K' N' n0 O' n1 B') n1 (xo B' (ks K' 1 N')) e w'') := fun w' a b x y => HOP.out K' N' O' B' w' a b hk' hn' x y
      have HBK : Hid (∀ w', Calls Try.prog 15 #[.agg (yC 32 K'), .int .u32 0, .agg (yC 12 N')] w' fun e w'' => e = .returned (.agg (yC 64 (bkB (st0 K' 0 N')))) ∧ Chg w' w'' []) := fun w' => Block_s K' 0 N' hk' hn' (by unfold V; omega) w'
      have HFL : Hid (∀ i, bkB (st0 K' 0 N') i < 256) := fun i => bkB_lt _ i
      have HTL : Hid (∀ i, tagT K' N' n0 O' n1 B' i < 256) := fun i => tagT_lt _ _ _ _ _ _ i
      have HXL : Hid (∀ i, i < n1 → xo B' (ks K' 1 N') i < 256) := xo_lt (fun i hi => hb' i (by have := HM.out; omega)) (ks_lt K' 1 N')
      have HBL : Hid (∀ i, i < M → B' i < 256) := hb'
      have hs : Sz w12 (.slice (some ⟨g, 0, none⟩) M M) (n1 + 16) B' := by rw [HM.out]; exact b4.szn hb' (by have := HST.out; omega)
      obtain ⟨F, h⟩ : ∃ F, bkB (st0 K' 0 N') = F := ⟨_, rfl⟩
      rw [h] at HMT HBK HFL
      clear h
      obtain ⟨TT, h⟩ : ∃ F, tagT K' N' n0 O' n1 B' = F := ⟨_, rfl⟩
      rw [h] at HMT HTG HTL
      clear h
      obtain ⟨X, h⟩ : ∃ F, xo B' (ks K' 1 N') = F := ⟨_, rfl⟩
      rw [h] at HOQ HXL HZ0
      clear h
      obtain ⟨tg, h⟩ : ∃ F, tagged K' N' n0 O' n1 B' = F := ⟨_, rfl⟩
      rw [h] at HOQ HZ0 HTG
      clear h hz hk' hn' hb' HOP HSE HTS HSB HZL HI HGK HOG
      go_wp2_with (first
        | (with_reducible refine load_b b1 23 (.tmp 13) Try.underlying23 ?_ ?_ ?_ ?_ ?_ ?_
           · rfl
           · rfl
           · rfl
           · rfl
           · (rw [yC_size]; exact keyInfo))
        | (with_reducible refine load_b b2 25 (.tmp 14) Try.underlying25 ?_ ?_ ?_ ?_ ?_ ?_
           · rfl
           · rfl
           · rfl
           · rfl
           · (rw [yC_size]; exact nonInfo)))
      refine (HOQ.out w12 _ _ b3 hs).mono ?_
      intro e w13 hOQ
      obtain ⟨sv, ev, rfl, k13, hor⟩ := hOQ.parts
      have b1x := b1.chg k13 (by simp)
      have b2x := b2.chg k13 (by simp)
      have b3x := b3.kept k13
      have b4x := b4.chg k13 (by simp)
      have K13 := K12.trans1 k13
      clear b1 b2 b3 b4 K12 k13 hs hOQ
      by_cases hb0 : by' = 0
      · obtain ⟨ht, hf⟩ := HZ0.out hb0
        subst hb0
        rcases hor with ⟨_, rfl, g2, rfl, _, BX⟩ | ⟨ht2, _⟩
        · go_wp2_with fail
          refine (SameBytes_z _ n1 X _ n1 f1 w13 (BX.szn HXL.out (by have := HV.out; omega)) (HV.out.1.2.kept K13)).mono ?_
          rw [sameB_self hf]
          rintro e w14 ⟨rfl, k14⟩
          go_wp2_with fail
          go_ret
          exact ⟨rfl, K13.trans1 k14⟩
        · rw [ht] at ht2; cases ht2
      · have HOR : Hid ((tg = true ∧ ev = 0 ∧ ∃ g, sv = .slice (some ⟨g, 0, none⟩) n1 n1) ∨ (tg = false ∧ ev = 121 ∧ sv = .slice none 0 0)) := by
          rcases hor with ⟨a, b, g2, c, _⟩ | ⟨a, b, c⟩
          · exact Or.inl ⟨a, b, g2, c⟩
          · exact Or.inr ⟨a, b, c⟩
        have hbz : ((by' : Int) == 0) = false := by simp; omega
        have i16 : ¬ (M : Int) < 16 := by have := HM.out; omega
        have dM : IntKind.i64.wrap ((M : Int) - 16) = (n1 : Int) := by have := HM.out; have := HST.out; rw [IntKind.wrap_i64]; omega
        have dMb : (M : Int) - 16 = (n1 : Int) := by have := HM.out; omega
        have dMc : IntKind.i64.wrap (n1 : Int) = (n1 : Int) := by have := HV.out; rw [IntKind.wrap_i64]; omega
        clear hor hb0 HZ0
        go_wp2_with (first
          | (with_reducible refine load_b b1x 23 (.tmp 13) Try.underlying23 ?_ ?_ ?_ ?_ ?_ ?_
             · rfl
             · rfl
             · rfl
             · rfl
             · (rw [yC_size]; exact keyInfo))
          | (with_reducible refine load_b b2x 25 (.tmp 14) Try.underlying25 ?_ ?_ ?_ ?_ ?_ ?_
             · rfl
             · rfl
             · rfl
             · rfl
             · (rw [yC_size]; exact nonInfo)))
        refine (HBK.out w13).mono ?_
        rintro e w14 ⟨rfl, k14⟩
        go_wp2_with (first
          | (have _h := BT6; with_reducible refine alloc_w rfl 23 rfl (.agg (yC 32 z0)) zeroKey (yC 32 z0) rfl ?_; intro hb w17 hhb BO k17)
          | (refine store_w BT rfl 39 _ _ (yC 64 F) rfl rfl rfl (by rw [yC_size]; exact b64Info) (by rw [yC_size, yC_size]) (yC_one 64 _) ?_; intro w16 BT6 k16)
          | (with_reducible refine alloc_w rfl 39 rfl (.agg (yC 64 (fun _ => 0))) zeroB64 (yC 64 (fun _ => 0)) rfl ?_; intro tb w15 htb BT k15))
        have HTB : Hid (w.heap.size ≤ tb ∧ ¬ tb = g) := ⟨by have := K13.size; have := k14.size; omega, by have := (b4x.chg k14 (by simp)).lt; omega⟩
        have K17 : Chg w w17 [] := (((K13.trans1 k14).trans1 k15).new k16 HTB.out.1).trans1 k17
        have b4y := (((b4x.chg k14 (by simp)).chg k15 (by simp)).chg k16 (by have := HTB.out; simp; omega)).chg k17 (by simp)
        have b3y := (((b3x.kept k14).kept k15).chg k16 (fun g' o' n' c' h0' e hm => by
          have e2 : g' = tb := by simpa using hm
          subst e2
          obtain ⟨_, _, e3, _, _, h3⟩ := b3x.kept k14
          obtain ⟨g3, o3, e4, hb3⟩ := h3 (by simp only [Value.slice.injEq] at e e3; omega)
          subst e4
          have q3 := e.symm.trans e3
          simp only [Value.slice.injEq, Option.some.injEq, Addr.mk.injEq] at q3
          have := hb3.lt
          omega)).kept k17
        have BT7 := BT6.chg k17 (by simp)
        have HHB : Hid (w.heap.size ≤ hb ∧ ¬ hb = g) := ⟨by have := (((K13.trans1 k14).trans1 k15).new k16 HTB.out.1).size; omega, by have := (((b4x.chg k14 (by simp)).chg k15 (by simp)).chg k16 (by have := HTB.out; simp; omega)).lt; omega⟩
        have HO17 : Hid (Oz (.slice po n0 co) [hb]) := fun g' o' n' c' h0' e hm => by
          have e2 : g' = hb := by simpa using hm
          subst e2
          have b3z := ((b3x.kept k14).kept k15)
          obtain ⟨_, _, e3, _, _, h3⟩ := b3z
          obtain ⟨g3, o3, e4, hb3⟩ := h3 (by simp only [Value.slice.injEq] at e e3; omega)
          subst e4
          have q3 := e.symm.trans e3
          simp only [Value.slice.injEq, Option.some.injEq, Addr.mk.injEq] at q3
          have := hb3.lt
          have := k16.size
          omega
        clear b1x b2x b3x b4x BT BT6 k14 k15 k16 k17 K13 htb hhb
        refine lt_begin (fun _ => True) (fun _ => false) (by kernel_rfl) ?_
        replace BT7 := BT7.drew
        replace BO := BO.drew
        replace b4y := b4y.drew
        replace b3y := b3y.kept ((Chg.refl w17 []).drew)
        replace K17 := K17.drew
        obtain ⟨z2, hz⟩ : ∃ z, z = w17.drew := ⟨_, rfl⟩
        rw [← hz] at BT7 BO b4y b3y K17 ⊢
        clear hz
        refine lt_val (v := (.slice (some ⟨hb, 0, none⟩) 32 32)) 0 (some 171) rfl (by kernel_rfl) (by kernel_rfl) (by kernel_rfl) (fun _ _ _ h => h) rfl rfl (fun w => ?_) ?_
        · (go_simp; try with_reducible rfl)
        try simp only [Act.put, List.setIfInBounds_toArray, List.set_cons_zero, List.set_cons_succ]
        refine lt_val (v := (.slice (some ⟨tb, 0, none⟩) 32 64)) 1 (some 172) rfl (by kernel_rfl) (by kernel_rfl) (by kernel_rfl) (fun _ _ _ h => h) rfl rfl (fun w => ?_) ?_
        · (go_simp; try with_reducible rfl)
        try simp only [Act.put, List.setIfInBounds_toArray, List.set_cons_zero, List.set_cons_succ]
        refine lt_one 2 rfl (by kernel_rfl) rfl (fun K hK => ?_)
        refine copy_yz (.tmp 171) (.tmp 172) 26 26 rfl 5 Try.underlying26 u8Inf hb 0 32 32 (some ⟨tb, 0, none⟩) 32 64 rfl rfl 32 z0 23 BO 32 F rfl (by omega) ⟨tb, 0, rfl, fun j hj => by rw [BT7.cell, Nat.zero_add, yC_get _ _ _ (by omega)]⟩ (by omega) ?_
        intro w18 BO8 k18
        change K (Act.put _ (some 173) _) _
        refine hK.out _ _ (fun _ h => h) ?_
        clear hK K
        try simp only [Act.put, List.setIfInBounds_toArray, List.set_cons_zero, List.set_cons_succ]
        refine lt_done (by kernel_rfl) ?_ _
        rw [lay_all] at BO8
        have K18 : Chg w w18 [] := K17.new k18 HHB.out.1
        have b4z := b4y.chg k18 (by have := HHB.out; simp; omega)
        have b3z := b3y.chg k18 HO17.out
        clear K17 BT7 b4y b3y k18 BO
        have SBT : Sz w18 (.slice (some ⟨g, 0, none⟩) n1 M) n1 B' := ⟨_, M, rfl, by have := HM.out; omega, by have := HST.out; omega, fun _ => ⟨g, 0, rfl, b4z.lt, fun i hi => HBL.out i (by have := HM.out; omega), fun i hi => by rw [b4z.cell, Nat.zero_add, yC_get _ _ _ (by have := HM.out; omega)]⟩⟩
        have SBE : Sz w18 (.slice (some ⟨g, n1, none⟩) 16 16) 16 (fun i => B' (n1 + i)) := ⟨_, 16, rfl, by omega, by omega, fun _ => ⟨g, n1, rfl, b4z.lt, fun i hi => HBL.out _ (by have := HM.out; omega), fun i hi => by rw [b4z.cell, yC_get _ _ _ (by have := HM.out; omega)]⟩⟩
        have HSS : Hid ((Sz w18 (.slice po n0 co) n0 O' ∧ Sz w18 (.slice (some ⟨g, 0, none⟩) n1 M) n1 B') ∧ Sz w18 (.slice (some ⟨g, n1, none⟩) 16 16) 16 (fun i => B' (n1 + i))) := ⟨⟨b3z, SBT⟩, SBE⟩
        have HPD : Hid ((pd n0 ≤ n0 + 15 ∧ pd n1 ≤ n1 + 15) ∧ n0 + zn n0 = pd n0 ∧ n1 + zn n1 = pd n1) := ⟨⟨by unfold pd; omega, by unfold pd; omega⟩, zn_pd n0, zn_pd n1⟩
        obtain ⟨bz, hbz0⟩ : ∃ x, w18.heap.size = x := ⟨_, rfl⟩
        have HBZ : Hid (w18.heap.size = bz) := hbz0
        obtain ⟨ra, hra⟩ : ∃ r, n0 % 16 = r := ⟨_, rfl⟩
        obtain ⟨qa, hqa⟩ : ∃ r, 16 - ra = r := ⟨_, rfl⟩
        obtain ⟨za, hza⟩ : ∃ r, zn n0 = r := ⟨_, rfl⟩
        obtain ⟨rb, hrb⟩ : ∃ r, n1 % 16 = r := ⟨_, rfl⟩
        obtain ⟨qb, hqb⟩ : ∃ r, 16 - rb = r := ⟨_, rfl⟩
        obtain ⟨zb, hzb⟩ : ∃ r, zn n1 = r := ⟨_, rfl⟩
        have hza2 : (16 - n0 % 16) % 16 = za := hza
        have hzb2 : (16 - n1 % 16) % 16 = zb := hzb
        have HZZ : Hid (n0 + za = pd n0 ∧ n1 + zb = pd n1 ∧ za ≤ 15 ∧ zb ≤ 15) := ⟨by rw [← hza]; exact HPD.out.2.1, by rw [← hzb]; exact HPD.out.2.2, by omega, by omega⟩
        have m1 : Int.tmod (n0 : Int) 16 = (ra : Int) := by rw [Int.tmod_eq_emod_of_nonneg (by omega)]; omega
        have m1b : (n0 : Int) % 16 = (ra : Int) := by omega
        have m2 : IntKind.i64.wrap (16 - (ra : Int)) = (qa : Int) := by rw [IntKind.wrap_i64]; omega
        have m2b : 16 - (ra : Int) = (qa : Int) := by omega
        have m2c : IntKind.i64.wrap (qa : Int) = (qa : Int) := by rw [IntKind.wrap_i64]; omega
        have m3 : Int.tmod (qa : Int) 16 = (za : Int) := by rw [Int.tmod_eq_emod_of_nonneg (by omega)]; omega
        have m3b : (qa : Int) % 16 = (za : Int) := by omega
        have s1 : Int.tmod (n1 : Int) 16 = (rb : Int) := by rw [Int.tmod_eq_emod_of_nonneg (by omega)]; omega
        have s1b : (n1 : Int) % 16 = (rb : Int) := by omega
        have s2 : IntKind.i64.wrap (16 - (rb : Int)) = (qb : Int) := by rw [IntKind.wrap_i64]; omega
        have s2b : 16 - (rb : Int) = (qb : Int) := by omega
        have s2c : IntKind.i64.wrap (qb : Int) = (qb : Int) := by rw [IntKind.wrap_i64]; omega
        have s3 : Int.tmod (qb : Int) 16 = (zb : Int) := by rw [Int.tmod_eq_emod_of_nonneg (by omega)]; omega
        have s3b : (qb : Int) % 16 = (zb : Int) := by omega
        have j1 : (n1 : Int) ≤ (M : Int) := by have := HM.out; omega
        have j2 : ¬ M = n1 := by have := HM.out; omega
        have j3 : M - n1 = 16 := by have := HM.out; omega
        clear hbz0 hra hqa hza hrb hqb hzb hza2 hzb2 b3z b4z SBT SBE HPD
        go_wp2_with (first
          | (have O3 := O3'; refine append_kl rfl (.tmp 189) (.tmp 193) rfl bz a3 (pd n0 + n1) zb _ rfl rfl O3 (by have := HV.out; have := HZZ.out; omega) (by have := HBZ.out; have := C3.size; omega) ?_; intro a4 w22 O4 k22; rw [show pd n0 + n1 + zb = pd n0 + pd n1 by have := HZZ.out; omega] at O4; have C4 := C3.trans (O3.cb k22); have Q4 := Q3.trans (O3.kp k22))
          | (have O2 := O2'; refine append_zl rfl (.tmp 184) (.tmp 187) rfl bz a2 (.slice (some ⟨g, 0, none⟩) n1 M) (pd n0) n1 _ B' rfl rfl O2 (HSS.out.1.2.kept (Cb.low (Chg.refl w18 []) C2 (Nat.le_of_eq HBZ.out))) (by have := HV.out; have := HZZ.out; omega) (by have := HBZ.out; have := C2.size; omega) ?_; intro a3 w21 O3' k21; have C3 := C2.trans (O2.cb k21); have Q3 := Q2.trans (O2.kp k21))
          | (have O1 := O1'; refine append_kl rfl (.tmp 177) (.tmp 182) rfl bz a1 n0 za O' rfl rfl O1 (by have := HV.out; have := HZZ.out; omega) (by have := HBZ.out; have := k19.size; omega) ?_; intro a2 w20 O2' k20; rw [HZZ.out.1] at O2'; have C2 := (Cb.none k19).trans (O1.cb k20); have Q2 := (Kp.of k19).trans (O1.kp k20))
          | (refine append_zl rfl (.tmp 174) (.tmp 175) rfl bz (.slice none 0 0) (.slice po n0 co) 0 n0 O' O' rfl rfl (Own.nil _ _ O') HSS.out.1.1 (by have := HV.out; omega) (by have := HBZ.out; omega) ?_; intro a1 w19 O1' k19; rw [Nat.zero_add, cat_zero] at O1'; replace k19 : Chg w18 w19 [] := k19))
        have O4b := O4
        clear O1' O2' O3' O4 O1 O2 O3 C2 C3 Q2 Q3 k19 k20 k21 k22
        refine (eight_l n0 (by have := HV.out; omega) w22).mono ?_
        rintro e w23 ⟨v23, rfl, O23, k23⟩
        replace O4b := O4b.chg k23 (by simp)
        replace C4 := C4.trans (Cb.none k23)
        replace Q4 := Q4.trans (Kp.of k23)
        clear k23
        go_wp2_with (refine append_zl rfl (.tmp 195) (.tmp 198) rfl bz a4 v23 (pd n0 + pd n1) 8 _ (e8 n0) rfl rfl O4b O23.sz (by have := HV.out; have := HZZ.out; omega) (by have := HBZ.out; have := C4.size; omega) ?_; intro a5 w24 O5 k24)
        replace C4 := C4.trans (O4b.cb k24)
        replace Q4 := Q4.trans (O4b.kp k24)
        clear O4b O23 k24
        refine (eight_l n1 (by have := HV.out; omega) w24).mono ?_
        rintro e w25 ⟨v25, rfl, O25, k25⟩
        replace O5 := O5.chg k25 (by simp)
        replace C4 := C4.trans (Cb.none k25)
        replace Q4 := Q4.trans (Kp.of k25)
        clear k25
        go_wp2_with (first
          | (refine append_zl rfl (.tmp 200) (.tmp 202) rfl bz a5 v25 (pd n0 + pd n1 + 8) 8 _ (e8 n1) rfl rfl O5 O25.sz (by have := HV.out; have := HZZ.out; omega) (by have := HBZ.out; have := C4.size; omega) ?_; intro a6 w26 O6 k26; have BO26 : Blk w26 hb (yC 32 F) 23 := (Q4.trans (O5.kp k26)) hb _ 23 (by decide) BO8)
          | (with_reducible refine load_b BO26 23 (.tmp 19) Try.underlying23 ?_ ?_ ?_ ?_ ?_ ?_
             · rfl
             · rfl
             · rfl
             · rfl
             · (rw [yC_size]; exact keyInfo)))
        have O6' : Own w26 bz a6 (pd n0 + pd n1 + 8 + 8) (tuF n0 O' n1 B') := O6
        have P26 : Chg w18 w26 [] := Cb.low (Chg.refl w18 []) (C4.trans (O5.cb k26)) (Nat.le_of_eq HBZ.out)
        clear O5 O25 O6 C4 Q4 k26 BO26 BO8
        refine (Mac_s F (fun i _ => HFL.out i) a6 (pd n0 + pd n1 + 8 + 8) (tuF n0 O' n1 B') w26 O6'.sz).mono ?_
        rw [HMT.out]
        rintro e w27 ⟨rfl, k27⟩
        go_wp2_with (first
          | (refine store_w BG rfl 43 _ _ (yC 16 TT) rfl rfl rfl (by rw [yC_size]; exact tagInfo) (by rw [yC_size, yC_size]) (yC_one 16 _) ?_; intro w29 BG29 k29)
          | (with_reducible refine alloc_w rfl 43 rfl (.agg (yC 16 (fun _ => 0))) zeroTag (yC 16 (fun _ => 0)) rfl ?_; intro tt w28 htt BG k28))
        have P28 : Chg w18 w28 [] := (P26.trans1 k27).trans1 k28
        have hTT : ¬ tt < w18.heap.size := by have := (P26.trans1 k27).size; omega
        have P29 : Chg w18 w29 [] := P28.new k29 (by omega)
        have K29 : Chg w w29 [] := K18.trans1 P29
        have SE29 := HSS.out.2.kept P29
        have ST29 := BG29.szn (fun i _ => HTL.out i) (by decide)
        clear P26 P28 P29 K18 k27 k28 k29 BG O6' htt hTT
        have HEQ : Hid (sameB 16 TT 16 (fun i => B' (n1 + i)) = tg) := by
          show sameB 16 TT 16 (fun i => B' (n1 + i)) = tg
          rw [HTG.out, eqn_symm]
          unfold sameB
          simp
        have HSB2 : Hid (Calls Try.prog 12 #[.slice (some ⟨tt, 0, none⟩) 16 16, .slice (some ⟨g, n1, none⟩) 16 16] w29.drew fun e w' => e = .returned (.bool tg) ∧ Chg w29.drew w' []) := by
          have q := SameBytes_z (.slice (some ⟨tt, 0, none⟩) 16 16) 16 TT (.slice (some ⟨g, n1, none⟩) 16 16) 16 (fun i => B' (n1 + i)) w29.drew (ST29.kept ((Chg.refl w29 []).drew)) (SE29.kept ((Chg.refl w29 []).drew))
          rw [HEQ.out] at q
          exact q
        have K30 := K29.drew
        clear SE29 ST29 BG29 HTG HEQ K29
        rcases HOR.out with ⟨rfl, rfl, g3, rfl⟩ | ⟨rfl, rfl, rfl⟩
        · refine lt_begin (fun _ => True) (fun _ => false) (by kernel_rfl) ?_
          obtain ⟨z3, hz⟩ : ∃ z, z = w29.drew := ⟨_, rfl⟩
          rw [← hz] at HSB2 K30 ⊢
          clear hz
          refine lt_val (v := ?_) 0 (some 207) rfl (by kernel_rfl) (by kernel_rfl) (by kernel_rfl) (fun _ _ _ h => h) rfl rfl (fun w => ?_) ?_
          rotate_left
          · (go_simp; try with_reducible rfl)
          try simp only [Act.put, List.setIfInBounds_toArray, List.set_cons_zero, List.set_cons_succ]
          refine lt_val (v := ?_) 1 (some 208) rfl (by kernel_rfl) (by kernel_rfl) (by kernel_rfl) (fun _ _ _ h => h) rfl rfl (fun w => ?_) ?_
          rotate_left
          · (go_simp; try with_reducible rfl)
          try simp only [Act.put, List.setIfInBounds_toArray, List.set_cons_zero, List.set_cons_succ]
          refine lt_val (v := (.slice (some ⟨tt, 0, none⟩) 16 16)) 2 (some 209) rfl (by kernel_rfl) (by kernel_rfl) (by kernel_rfl) (fun _ _ _ h => h) rfl rfl (fun w => ?_) ?_
          · (go_simp; try with_reducible rfl)
          try simp only [Act.put, List.setIfInBounds_toArray, List.set_cons_zero, List.set_cons_succ]
          refine lt_val (v := ?_) 3 (some 210) rfl (by kernel_rfl) (by kernel_rfl) (by kernel_rfl) (fun _ _ _ h => h) rfl rfl (fun w => ?_) ?_
          rotate_left
          · (go_simp; try with_reducible rfl)
          try simp only [Act.put, List.setIfInBounds_toArray, List.set_cons_zero, List.set_cons_succ]
          refine lt_val (v := ?_) 4 (some 211) rfl (by kernel_rfl) (by kernel_rfl) (by kernel_rfl) (fun _ _ _ h => h) rfl rfl (fun w => ?_) ?_
          rotate_left
          · (go_simp; try with_reducible rfl)
          try simp only [Act.put, List.setIfInBounds_toArray, List.set_cons_zero, List.set_cons_succ]
          refine lt_val (v := (.slice (some ⟨g, n1, none⟩) 16 16)) 5 (some 212) rfl (by kernel_rfl) (by kernel_rfl) (by kernel_rfl) (fun _ _ _ h => h) rfl rfl (fun w => ?_) ?_
          · (go_simp; try with_reducible rfl)
          try simp only [Act.put, List.setIfInBounds_toArray, List.set_cons_zero, List.set_cons_succ]
          refine lt_one 6 rfl (by kernel_rfl) rfl (fun K hK => ?_)
          go_simp
          refine HSB2.out.mono ?_
          rintro e w30 ⟨rfl, k30⟩
          go_wp2_with fail
          refine hK.out _ _ (fun _ h => h) ?_
          clear hK K
          try simp only [Act.put, List.setIfInBounds_toArray, List.set_cons_zero, List.set_cons_succ]
          refine lt_val (v := ?_) 7 (some 214) rfl (by kernel_rfl) (by kernel_rfl) (by kernel_rfl) (fun _ _ _ h => h) rfl rfl (fun w => ?_) ?_
          rotate_left
          · (go_simp; try with_reducible rfl)
          try simp only [Act.put, List.setIfInBounds_toArray, List.set_cons_zero, List.set_cons_succ]
          refine lt_val (v := ?_) 8 (some 215) rfl (by kernel_rfl) (by kernel_rfl) (by kernel_rfl) (fun _ _ _ h => h) rfl rfl (fun w => ?_) ?_
          rotate_left
          · (go_simp; try with_reducible rfl)
          try simp only [Act.put, List.setIfInBounds_toArray, List.set_cons_zero, List.set_cons_succ]
          refine lt_val (v := ?_) 9 (some 216) rfl (by kernel_rfl) (by kernel_rfl) (by kernel_rfl) (fun _ _ _ h => h) rfl rfl (fun w => ?_) ?_
          rotate_left
          · (go_simp; try with_reducible rfl)
          try simp only [Act.put, List.setIfInBounds_toArray, List.set_cons_zero, List.set_cons_succ]
          refine lt_val (v := ?_) 10 (some 217) rfl (by kernel_rfl) (by kernel_rfl) (by kernel_rfl) (fun _ _ _ h => h) rfl rfl (fun w => ?_) ?_
          rotate_left
          · (go_simp; try with_reducible rfl)
          try simp only [Act.put, List.setIfInBounds_toArray, List.set_cons_zero, List.set_cons_succ]
          refine lt_val (v := ?_) 11 (some 218) rfl (by kernel_rfl) (by kernel_rfl) (by kernel_rfl) (fun _ _ _ h => h) rfl rfl (fun w => ?_) ?_
          rotate_left
          · (go_simp; try with_reducible rfl)
          try simp only [Act.put, List.setIfInBounds_toArray, List.set_cons_zero, List.set_cons_succ]
          refine lt_no 12 (some 219) rfl (by kernel_rfl) rfl rfl ?_
          try simp only [Act.put, List.setIfInBounds_toArray, List.set_cons_zero, List.set_cons_succ]
          refine lt_no 13 (some 220) rfl (by kernel_rfl) rfl rfl ?_
          try simp only [Act.put, List.setIfInBounds_toArray, List.set_cons_zero, List.set_cons_succ]
          refine lt_no 14 (some 221) rfl (by kernel_rfl) rfl rfl ?_
          try simp only [Act.put, List.setIfInBounds_toArray, List.set_cons_zero, List.set_cons_succ]
          refine lt_no 15 (some 222) rfl (by kernel_rfl) rfl rfl ?_
          try simp only [Act.put, List.setIfInBounds_toArray, List.set_cons_zero, List.set_cons_succ]
          refine lt_no 16 (some 223) rfl (by kernel_rfl) rfl rfl ?_
          try simp only [Act.put, List.setIfInBounds_toArray, List.set_cons_zero, List.set_cons_succ]
          refine lt_no 17 (some 224) rfl (by kernel_rfl) rfl rfl ?_
          try simp only [Act.put, List.setIfInBounds_toArray, List.set_cons_zero, List.set_cons_succ]
          refine lt_no 18 (some 225) rfl (by kernel_rfl) rfl rfl ?_
          try simp only [Act.put, List.setIfInBounds_toArray, List.set_cons_zero, List.set_cons_succ]
          refine lt_val (v := ?_) 19 (some 226) rfl (by kernel_rfl) (by kernel_rfl) (by kernel_rfl) (fun _ _ _ h => h) rfl rfl (fun w => ?_) ?_
          rotate_left
          · (go_simp; try with_reducible rfl)
          try simp only [Act.put, List.setIfInBounds_toArray, List.set_cons_zero, List.set_cons_succ]
          refine lt_val (v := ?_) 20 (some 227) rfl (by kernel_rfl) (by kernel_rfl) (by kernel_rfl) (fun _ _ _ h => h) rfl rfl (fun w => ?_) ?_
          rotate_left
          · (go_simp; try with_reducible rfl)
          try simp only [Act.put, List.setIfInBounds_toArray, List.set_cons_zero, List.set_cons_succ]
          refine lt_val (v := ?_) 21 (some 2) rfl (by kernel_rfl) (by kernel_rfl) (by kernel_rfl) (fun _ _ _ h => h) rfl rfl (fun w => ?_) ?_
          rotate_left
          · (go_simp; try with_reducible rfl)
          try simp only [Act.put, List.setIfInBounds_toArray, List.set_cons_zero, List.set_cons_succ]
          refine lt_done (by kernel_rfl) ?_ _
          go_wp2_with fail
          go_ret
          exact ⟨rfl, K30.trans1 k30⟩
        · refine lt_begin (fun _ => True) (fun _ => false) (by kernel_rfl) ?_
          obtain ⟨z3, hz⟩ : ∃ z, z = w29.drew := ⟨_, rfl⟩
          rw [← hz] at HSB2 K30 ⊢
          clear hz
          refine lt_val (v := ?_) 0 (some 207) rfl (by kernel_rfl) (by kernel_rfl) (by kernel_rfl) (fun _ _ _ h => h) rfl rfl (fun w => ?_) ?_
          rotate_left
          · (go_simp; try with_reducible rfl)
          try simp only [Act.put, List.setIfInBounds_toArray, List.set_cons_zero, List.set_cons_succ]
          refine lt_val (v := ?_) 1 (some 208) rfl (by kernel_rfl) (by kernel_rfl) (by kernel_rfl) (fun _ _ _ h => h) rfl rfl (fun w => ?_) ?_
          rotate_left
          · (go_simp; try with_reducible rfl)
          try simp only [Act.put, List.setIfInBounds_toArray, List.set_cons_zero, List.set_cons_succ]
          refine lt_val (v := (.slice (some ⟨tt, 0, none⟩) 16 16)) 2 (some 209) rfl (by kernel_rfl) (by kernel_rfl) (by kernel_rfl) (fun _ _ _ h => h) rfl rfl (fun w => ?_) ?_
          · (go_simp; try with_reducible rfl)
          try simp only [Act.put, List.setIfInBounds_toArray, List.set_cons_zero, List.set_cons_succ]
          refine lt_val (v := ?_) 3 (some 210) rfl (by kernel_rfl) (by kernel_rfl) (by kernel_rfl) (fun _ _ _ h => h) rfl rfl (fun w => ?_) ?_
          rotate_left
          · (go_simp; try with_reducible rfl)
          try simp only [Act.put, List.setIfInBounds_toArray, List.set_cons_zero, List.set_cons_succ]
          refine lt_val (v := ?_) 4 (some 211) rfl (by kernel_rfl) (by kernel_rfl) (by kernel_rfl) (fun _ _ _ h => h) rfl rfl (fun w => ?_) ?_
          rotate_left
          · (go_simp; try with_reducible rfl)
          try simp only [Act.put, List.setIfInBounds_toArray, List.set_cons_zero, List.set_cons_succ]
          refine lt_val (v := (.slice (some ⟨g, n1, none⟩) 16 16)) 5 (some 212) rfl (by kernel_rfl) (by kernel_rfl) (by kernel_rfl) (fun _ _ _ h => h) rfl rfl (fun w => ?_) ?_
          · (go_simp; try with_reducible rfl)
          try simp only [Act.put, List.setIfInBounds_toArray, List.set_cons_zero, List.set_cons_succ]
          refine lt_one 6 rfl (by kernel_rfl) rfl (fun K hK => ?_)
          go_simp
          refine HSB2.out.mono ?_
          rintro e w30 ⟨rfl, k30⟩
          go_wp2_with fail
          refine hK.out _ _ (fun _ h => h) ?_
          clear hK K
          try simp only [Act.put, List.setIfInBounds_toArray, List.set_cons_zero, List.set_cons_succ]
          refine lt_val (v := ?_) 7 (some 214) rfl (by kernel_rfl) (by kernel_rfl) (by kernel_rfl) (fun _ _ _ h => h) rfl rfl (fun w => ?_) ?_
          rotate_left
          · (go_simp; try with_reducible rfl)
          try simp only [Act.put, List.setIfInBounds_toArray, List.set_cons_zero, List.set_cons_succ]
          refine lt_val (v := ?_) 8 (some 215) rfl (by kernel_rfl) (by kernel_rfl) (by kernel_rfl) (fun _ _ _ h => h) rfl rfl (fun w => ?_) ?_
          rotate_left
          · (go_simp; try with_reducible rfl)
          try simp only [Act.put, List.setIfInBounds_toArray, List.set_cons_zero, List.set_cons_succ]
          refine lt_val (v := ?_) 9 (some 216) rfl (by kernel_rfl) (by kernel_rfl) (by kernel_rfl) (fun _ _ _ h => h) rfl rfl (fun w => ?_) ?_
          rotate_left
          · (go_simp; try with_reducible rfl)
          try simp only [Act.put, List.setIfInBounds_toArray, List.set_cons_zero, List.set_cons_succ]
          refine lt_val (v := ?_) 10 (some 217) rfl (by kernel_rfl) (by kernel_rfl) (by kernel_rfl) (fun _ _ _ h => h) rfl rfl (fun w => ?_) ?_
          rotate_left
          · (go_simp; try with_reducible rfl)
          try simp only [Act.put, List.setIfInBounds_toArray, List.set_cons_zero, List.set_cons_succ]
          refine lt_val (v := ?_) 11 (some 218) rfl (by kernel_rfl) (by kernel_rfl) (by kernel_rfl) (fun _ _ _ h => h) rfl rfl (fun w => ?_) ?_
          rotate_left
          · (go_simp; try with_reducible rfl)
          try simp only [Act.put, List.setIfInBounds_toArray, List.set_cons_zero, List.set_cons_succ]
          refine lt_val (v := ?_) 12 (some 219) rfl (by kernel_rfl) (by kernel_rfl) (by kernel_rfl) (fun _ _ _ h => h) rfl rfl (fun w => ?_) ?_
          rotate_left
          · (go_simp; try with_reducible rfl)
          try simp only [Act.put, List.setIfInBounds_toArray, List.set_cons_zero, List.set_cons_succ]
          refine lt_val (v := ?_) 13 (some 220) rfl (by kernel_rfl) (by kernel_rfl) (by kernel_rfl) (fun _ _ _ h => h) rfl rfl (fun w => ?_) ?_
          rotate_left
          · (go_simp; try with_reducible rfl)
          try simp only [Act.put, List.setIfInBounds_toArray, List.set_cons_zero, List.set_cons_succ]
          refine lt_val (v := ?_) 14 (some 221) rfl (by kernel_rfl) (by kernel_rfl) (by kernel_rfl) (fun _ _ _ h => h) rfl rfl (fun w => ?_) ?_
          rotate_left
          · (go_simp; try with_reducible rfl)
          try simp only [Act.put, List.setIfInBounds_toArray, List.set_cons_zero, List.set_cons_succ]
          refine lt_val (v := ?_) 15 (some 222) rfl (by kernel_rfl) (by kernel_rfl) (by kernel_rfl) (fun _ _ _ h => h) rfl rfl (fun w => ?_) ?_
          rotate_left
          · (go_simp; try with_reducible rfl)
          try simp only [Act.put, List.setIfInBounds_toArray, List.set_cons_zero, List.set_cons_succ]
          refine lt_val (v := ?_) 16 (some 223) rfl (by kernel_rfl) (by kernel_rfl) (by kernel_rfl) (fun _ _ _ h => h) rfl rfl (fun w => ?_) ?_
          rotate_left
          · (go_simp; try with_reducible rfl)
          try simp only [Act.put, List.setIfInBounds_toArray, List.set_cons_zero, List.set_cons_succ]
          refine lt_val (v := ?_) 17 (some 224) rfl (by kernel_rfl) (by kernel_rfl) (by kernel_rfl) (fun _ _ _ h => h) rfl rfl (fun w => ?_) ?_
          rotate_left
          · (go_simp; try with_reducible rfl)
          try simp only [Act.put, List.setIfInBounds_toArray, List.set_cons_zero, List.set_cons_succ]
          refine lt_val (v := ?_) 18 (some 225) rfl (by kernel_rfl) (by kernel_rfl) (by kernel_rfl) (fun _ _ _ h => h) rfl rfl (fun w => ?_) ?_
          rotate_left
          · (go_simp; try with_reducible rfl)
          try simp only [Act.put, List.setIfInBounds_toArray, List.set_cons_zero, List.set_cons_succ]
          refine lt_val (v := ?_) 19 (some 226) rfl (by kernel_rfl) (by kernel_rfl) (by kernel_rfl) (fun _ _ _ h => h) rfl rfl (fun w => ?_) ?_
          rotate_left
          · (go_simp; try with_reducible rfl)
          try simp only [Act.put, List.setIfInBounds_toArray, List.set_cons_zero, List.set_cons_succ]
          refine lt_val (v := ?_) 20 (some 227) rfl (by kernel_rfl) (by kernel_rfl) (by kernel_rfl) (fun _ _ _ h => h) rfl rfl (fun w => ?_) ?_
          rotate_left
          · (go_simp; try with_reducible rfl)
          try simp only [Act.put, List.setIfInBounds_toArray, List.set_cons_zero, List.set_cons_succ]
          refine lt_val (v := ?_) 21 (some 2) rfl (by kernel_rfl) (by kernel_rfl) (by kernel_rfl) (fun _ _ _ h => h) rfl rfl (fun w => ?_) ?_
          rotate_left
          · (go_simp; try with_reducible rfl)
          try simp only [Act.put, List.setIfInBounds_toArray, List.set_cons_zero, List.set_cons_succ]
          refine lt_done (by kernel_rfl) ?_ _
          go_wp2_with fail
          go_ret
          exact ⟨rfl, K30.trans1 k30⟩
end Go.Proofs.Ytpdbdaleheeldaa
