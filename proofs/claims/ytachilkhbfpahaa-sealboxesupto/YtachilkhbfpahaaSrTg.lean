/- rimeref12: Stream's end, filled, eight, tag. -/
import Derived.Test.YtachilkhbfpahaaSrSt
set_option linter.unusedVariables false
set_option linter.unusedSimpArgs false
set_option linter.unnecessarySimpa false
namespace Go.Proofs.Ytachilkhbfpahaa
open Go.RowKit

set_option maxHeartbeats 8000000 in
set_option maxRecDepth 100000 in
theorem Stream_rend (k nn : Nat → Nat) (ct : Nat) (hct : V ct) (v : Value) (n : Nat) (f : Nat → Nat) (w : World) (hv : Sz w v n f) (hm : n ≤ 9223372036854775000) (hq : 4294967296 < ct + (n + 63) / 64) :
    Calls Try.prog 11 #[.agg (yC 32 k), .int .u32 (ct : Nat), .agg (yC 12 nn), v] w fun e w' => e = .returned (.tuple #[.slice none 0 0, .int .i64 122]) ∧ Chg w w' [] := by
  obtain ⟨p1, c1, e1, _⟩ := id hv
  subst e1
  obtain ⟨q, hq1⟩ : ∃ q, (n + 63) / 64 = q := ⟨_, rfl⟩
  obtain ⟨b, hb⟩ : ∃ b, n + 63 = b := ⟨_, rfl⟩
  obtain ⟨s, hs⟩ : ∃ s, ct + q = s := ⟨_, rfl⟩
  unfold V at hct
  have w2 : IntKind.i64.wrap ((n : Int) + 63) = (b : Int) := by rw [IntKind.wrap_i64]; omega
  have w2b : IntKind.u64.wrap (b : Int) = (b : Int) := by rw [IntKind.wrap_u64]; omega
  have d1 : Int.tdiv (b : Int) 64 = (q : Int) := by rw [Int.tdiv_eq_ediv_of_nonneg (by omega)]; omega
  have w4 : IntKind.u64.wrap (q : Int) = (q : Int) := by rw [IntKind.wrap_u64]; omega
  have w5 : IntKind.u64.wrap (ct : Int) = (ct : Int) := by rw [IntKind.wrap_u64]; omega
  have w6 : IntKind.u64.wrap ((ct : Int) + (q : Int)) = (s : Int) := by rw [IntKind.wrap_u64]; omega
  have w7 : IntKind.u64.wrap ((s : Int) - 1) = (s : Int) - 1 := by rw [IntKind.wrap_u64]; omega
  have i1 : (0 : Int) < (q : Int) := by omega
  have i2 : (4294967295 : Int) < (s : Int) - 1 := by omega
  clear hv hm hct hq hq1 hb hs
  go_enter Try.func11, Try.ntmps11
  go_wp2_with (first
    | (refine box_w rfl 26 _ rfl (yC 12 nn) rfl ?_; intro nb w2 hnb BN k2)
    | (refine box_w rfl 23 _ rfl (yC 32 k) rfl ?_; intro kb w1 hkb BK k1))
  go_ret2
  exact ⟨rfl, k1.trans1 k2⟩
/-- Bytes of the call's own, more behind them. -/
def AnsF (w : World) (base N : Nat) (F : Nat → Nat) (e : Ending) (w' : World) : Prop := ∃ v', e = .returned v' ∧ Own w' base v' N F ∧ Cb base w w' ∧ Kp w w'
theorem Kp.refl (w : World) : Kp w w := Kp.of (Chg.refl w [])
set_option maxHeartbeats 8000000 in
set_option maxRecDepth 100000 in
theorem filled_r (v : Value) (n : Nat) (f : Nat → Nat) (base : Nat) (w : World) (ho : Own w base v n f) (hb : base ≤ w.heap.size) (hn : n ≤ 140737488355328) :
    Calls Try.prog 76 #[v] w fun e w' => AnsF w base (pd n) (fz n f) e w' := by
  have HN : Hid (n ≤ 140737488355328 ∧ n ≤ pd n ∧ pd n < n + 16 ∧ pd n % 16 = 0) := ⟨hn, by unfold pd; omega, by unfold pd; omega, by unfold pd; omega⟩
  have HF : Hid (∀ i, n ≤ i → fz n f i = 0) := fun i h => by unfold fz; rw [if_neg (by omega)]
  have HB : Hid (base ≤ w.heap.size) := hb
  have O0 : Own w base v n (fz n f) := ho.cong fun i hi => by unfold fz; rw [if_pos hi]
  obtain ⟨F, hF⟩ : ∃ F, fz n f = F := ⟨_, rfl⟩
  rw [hF] at O0 HF ⊢
  obtain ⟨P, hP⟩ : ∃ P, pd n = P := ⟨_, rfl⟩
  rw [hP] at HN ⊢
  clear ho hn hb hF hP
  go_enter Try.func76, Try.ntmps76
  go_wp2_with fail
  go_loopw [0] (fun t0 wr => ∃ m : Nat, n ≤ m ∧ m ≤ P ∧ (Own wr base t0 m F ∧ slz t0 = m) ∧ Cb base w wr ∧ Kp w wr) (fun t0 _ => P - slz t0)
  case atStart => exact ⟨n, Nat.le_refl _, HN.out.2.1, ⟨O0, by obtain ⟨p, c, rfl⟩ := O0.form2; rfl⟩, Cb.refl _ _, Kp.refl _⟩
  case round =>
    clear O0
    obtain ⟨m, h1, h2, ⟨o0, hz⟩, c0, q0⟩ := hrel
    obtain ⟨p, c, rfl⟩ := o0.form2
    have hN := HN.out
    by_cases h0 : m % 16 = 0
    · obtain rfl : m = P := by omega
      have e1 : Int.tmod (m : Int) 16 = 0 := by rw [Int.tmod_eq_emod_of_nonneg (by omega)]; omega
      have e2 : (m : Int) % 16 = 0 := by omega
      clear hN h1 h2 h0 hz
      go_wp2_with fail
      go_ret
      exact ⟨_, rfl, o0, c0, q0⟩
    · obtain ⟨r, hr⟩ : ∃ r, m % 16 = r := ⟨_, rfl⟩
      have e1 : Int.tmod (m : Int) 16 = (r : Int) := by rw [Int.tmod_eq_emod_of_nonneg (by omega)]; omega
      have e2 : (m : Int) % 16 = (r : Int) := by omega
      have e3 : ((r : Int) != 0) = true := by simp; omega
      have HM : Hid (n ≤ m ∧ m < P) := ⟨h1, by omega⟩
      have HFM : Hid (F m = 0) := HF.out m h1
      have HS : Hid (w.heap.size ≤ wr.heap.size) := c0.size
      clear hN h1 h2 h0 hr
      go_wp2_with (first
        | (refine append_zl rfl (.tmp 7) (.tmp 8) rfl base (.slice p m c) (.slice (some ⟨gx, 0, none⟩) 1 1) m 1 F (fun _ => 0) rfl rfl (o0.chg kx (by simp)) (BX.szn (fun _ _ => (by decide : (0 : Nat) < 256)) (by decide)) (by have := HM.out; have := HN.out; omega) (by have := HB.out; have := HS.out; have := kx.size; omega) ?_; intro v' w2 O2 k2)
        | (refine bsl_x rfl (.const (.int .u8 0)) rfl 0 rfl ?_; intro gx w1 hgx BX kx))
      have O2' : Own w2 base v' (m + 1) F := O2.cat1 HFM.out
      have hz2 : slz v' = m + 1 := by obtain ⟨p, c, rfl⟩ := O2'.form2; rfl
      have O1 := o0.chg kx (by simp)
      exact ⟨⟨m + 1, by have := HM.out; omega, by have := HM.out; omega, ⟨O2', hz2⟩, (c0.trans (Cb.none kx)).trans (O1.cb k2), (q0.trans (Kp.of kx)).trans (O1.kp k2)⟩, by show P - slz v' < P - slz (.slice p m c); rw [hz2]; show P - (m + 1) < P - m; have := HM.out; omega⟩
/-- A number in eight bytes. -/
def e8 (n : Nat) (i : Nat) : Nat := n / 256 ^ i % 256
set_option maxHeartbeats 8000000 in
set_option maxRecDepth 100000 in
theorem eight_r (n : Nat) (hn : n ≤ 9223372036854775807) (w : World) :
    Calls Try.prog 77 #[.int .i64 (n : Int)] w fun e w' => CyQ w 8 (e8 n) e w' := by
  have HN : Hid (n ≤ 9223372036854775807) := hn
  obtain ⟨b0, hb0⟩ : ∃ x, w.heap.size = x := ⟨_, rfl⟩
  have HB0 : Hid (w.heap.size = b0) := hb0
  have hw0 : IntKind.u64.wrap (n : Int) = (n : Int) := by rw [IntKind.wrap_u64]; omega
  clear hn hb0
  go_enter Try.func77, Try.ntmps77
  go_wp2_with fail
  go_loopw [4, 3] (fun t4 t3 wr => ∃ i : Nat, i ≤ 8 ∧ t4 = .int .i64 (i : Int) ∧ Own wr b0 t3 i (e8 n) ∧ Chg w wr []) (fun t4 _ _ => (8 - intOf t4).toNat)
  case atStart => exact ⟨0, by omega, rfl, Own.nil _ _ _, Chg.refl _ _⟩
  case round =>
    obtain ⟨i, hi, rfl, o0, c0⟩ := hrel
    by_cases h8 : i < 8
    · have hI : (i : Int) < 8 := by omega
      have e1 : IntKind.i64.wrap ((i : Int) + 1) = (i : Int) + 1 := by rw [IntKind.wrap_i64]; omega
      have HI : Hid (i < 8) := h8
      obtain ⟨x, hx⟩ : ∃ x, e8 n i = x := ⟨_, rfl⟩
      have HX : Hid (e8 n i = x ∧ x < 256) := ⟨hx, by rw [← hx]; exact Nat.mod_lt _ (by decide)⟩
      have hw : IntKind.u64.wrap (8 * ((i : Nat) : Int)) = 8 * ((i : Nat) : Int) := by rw [IntKind.wrap_u64]; omega
      have hwi : IntKind.i64.wrap (8 * ((i : Nat) : Int)) = 8 * ((i : Nat) : Int) := by rw [IntKind.wrap_i64]; omega
      have htn : (8 * ((i : Nat) : Int)).toNat = 8 * i := by omega
      have hmi : min (8 * i) 64 = 8 * i := by omega
      have hv : ((n : Nat) : Int) / 2 ^ (8 * i) % 256 = ((x : Nat) : Int) := by
        rw [← hx]
        unfold e8
        rw [show (256 : Nat) = 2 ^ 8 from rfl, ← Nat.pow_mul]
        simp
      have hwu : IntKind.u8.wrap (((n : Nat) : Int) / 2 ^ (8 * i)) = ((x : Nat) : Int) := by rw [IntKind.wrap_u8]; exact hv
      have HS : Hid (b0 ≤ wr.heap.size) := by have := c0.size; have := HB0.out; show b0 ≤ wr.heap.size; omega
      clear h8 hi hx
      go_wp2_with (first
        | (refine append_zl rfl (.tmp 9) (.tmp 17) rfl b0 _ (.slice (some ⟨gx, 0, none⟩) 1 1) i 1 (e8 n) (fun _ => x) rfl rfl (o0.chg kx (by simp)) (BX.szn (fun _ _ => HX.out.2) (by decide)) (by have := HI.out; omega) (by have := HS.out; have := kx.size; omega) ?_; intro v' w2 O2 k2)
        | (refine bsl_x rfl (.tmp 16) rfl x rfl ?_; intro gx w1 hgx BX kx))
      have hob := (o0.chg kx (by simp)).ob_ge
      exact ⟨⟨i + 1, by have := HI.out; omega, by go_num, O2.cat1 HX.out.1, (c0.trans1 kx).trans k2 (fun y hy => Or.inr (by have := (hob y hy).1; have := HB0.out; omega))⟩, by simp [intOf]; have := HI.out; omega⟩
    · obtain rfl : i = 8 := by omega
      have hI : ¬ ((8 : Nat) : Int) < 8 := by omega
      clear h8 hi
      go_wp2_with fail
      go_ret
      exact ⟨_, rfl, by rw [HB0.out]; exact o0, c0⟩
theorem ln_e8 (n0 n1 i : Nat) (hi : i < 16) : ln n0 n1 i = if i < 8 then e8 n0 i else e8 n1 (i - 8) := by
  unfold ln pl e8
  by_cases h : i < 8
  · rw [if_neg (by omega), if_pos (by omega), if_pos h, Nat.sub_zero]
  · rw [if_pos (by omega), if_neg h]
theorem pd_add (a b : Nat) : pd (pd a + b) = pd a + pd b := by unfold pd; omega
/-- What the tag is taken of. -/
def tgF (n0 : Nat) (f0 : Nat → Nat) (n1 : Nat) (f1 : Nat → Nat) : Nat → Nat :=
  cat (cat (fz (pd n0 + n1) (cat (fz n0 f0) (pd n0) f1)) (pd n0 + pd n1) (e8 n0)) (pd n0 + pd n1 + 8) (e8 n1)
theorem tgF_0 (n0 : Nat) (f0 : Nat → Nat) (n1 : Nat) (f1 : Nat → Nat) (i : Nat) (h : i < pd n0) : tgF n0 f0 n1 f1 i = fz n0 f0 i := by
  unfold tgF cat
  rw [if_pos (by omega), if_pos (by omega)]
  rw [fz, if_pos (by omega), if_pos h]
theorem tgF_1 (n0 : Nat) (f0 : Nat → Nat) (n1 : Nat) (f1 : Nat → Nat) (i : Nat) (h : i < pd n1) : tgF n0 f0 n1 f1 (pd n0 + i) = fz n1 f1 i := by
  unfold tgF cat
  rw [if_pos (by omega), if_pos (by omega)]
  show (if pd n0 + i < pd n0 + n1 then (if pd n0 + i < pd n0 then fz n0 f0 (pd n0 + i) else f1 (pd n0 + i - pd n0)) else 0) = if i < n1 then f1 i else 0
  by_cases h2 : i < n1
  · rw [if_pos (by omega), if_neg (by omega), Nat.add_sub_cancel_left, if_pos h2]
  · rw [if_neg (by omega), if_neg h2]
theorem tgF_2 (n0 : Nat) (f0 : Nat → Nat) (n1 : Nat) (f1 : Nat → Nat) (i : Nat) (h : i < 16) : tgF n0 f0 n1 f1 (pd n0 + pd n1 + i) = ln n0 n1 i := by
  rw [ln_e8 _ _ _ h]
  unfold tgF cat
  by_cases h2 : i < 8
  · rw [if_pos (by omega), if_neg (by omega), if_pos h2, Nat.add_sub_cancel_left]
  · rw [if_neg (by omega), if_neg h2, show pd n0 + pd n1 + i - (pd n0 + pd n1 + 8) = i - 8 by omega]
theorem mac_tgF (k nn h : Nat → Nat) (n0 : Nat) (f0 : Nat → Nat) (n1 : Nat) (f1 : Nat → Nat) (hh : ∀ i, i < 32 → h i = bkB (st0 k 0 nn) i) :
    macB h (pd n0 + pd n1 + 8 + 8) (tgF n0 f0 n1 f1) = tagT k nn n0 f0 n1 f1 :=
  mac_tag k nn h (tgF n0 f0 n1 f1) n0 f0 n1 f1 hh (tgF_0 n0 f0 n1 f1) (tgF_1 n0 f0 n1 f1) (tgF_2 n0 f0 n1 f1)
set_option maxHeartbeats 16000000 in
set_option maxRecDepth 100000 in
theorem tag_r (k nn : Nat → Nat) (hk : ∀ i, i < 32 → k i < 256) (hn : ∀ i, i < 12 → nn i < 256) (v0 : Value) (n0 : Nat) (f0 : Nat → Nat) (v1 : Value) (n1 : Nat) (f1 : Nat → Nat) (w : World) (hv0 : Sz w v0 n0 f0) (hv1 : Sz w v1 n1 f1) (h0 : n0 ≤ 1099511627776) (h1 : n1 ≤ 1099511627776) :
    Calls Try.prog 60 #[.agg (yC 32 k), .agg (yC 12 nn), v0, v1] w fun e w' => e = .returned (.agg (yC 16 (tagT k nn n0 f0 n1 f1))) ∧ Chg w w' [] := by
  have HB : Hid (∀ w', Calls Try.prog 13 #[.agg (yC 32 k), .int .u32 0, .agg (yC 12 nn)] w' fun e w'' => e = .returned (.agg (yC 64 (bkB (st0 k 0 nn)))) ∧ Chg w' w'' []) := fun w' => Block_r k 0 nn hk hn (by unfold V; omega) w'
  have HF : Hid (∀ i, bkB (st0 k 0 nn) i < 256) := fun i => bkB_lt _ i
  have HT : Hid (macB (bkB (st0 k 0 nn)) (pd n0 + pd n1 + 8 + 8) (tgF n0 f0 n1 f1) = tagT k nn n0 f0 n1 f1) := mac_tgF k nn _ n0 f0 n1 f1 (fun _ _ => rfl)
  obtain ⟨F, hF⟩ : ∃ F, bkB (st0 k 0 nn) = F := ⟨_, rfl⟩
  rw [hF] at HB HF HT
  obtain ⟨T, hT⟩ : ∃ T, tagT k nn n0 f0 n1 f1 = T := ⟨_, rfl⟩
  rw [hT] at HT ⊢
  have HV : Hid ((Sz w v0 n0 f0 ∧ Sz w v1 n1 f1) ∧ n0 ≤ 1099511627776 ∧ n1 ≤ 1099511627776) := ⟨⟨hv0, hv1⟩, h0, h1⟩
  have HP : Hid (pd n0 ≤ n0 + 15 ∧ pd n1 ≤ n1 + 15) := ⟨by unfold pd; omega, by unfold pd; omega⟩
  obtain ⟨p0, c0, e0, _⟩ := id hv0
  obtain ⟨p1, c1, e1, _⟩ := id hv1
  subst e0 e1
  clear hk hn hF hT hv0 hv1 h0 h1
  go_enter Try.func60, Try.ntmps60
  go_wp2_with (first
    | (with_reducible refine load_b (BN.chg k3 (by simp)) 26 (.tmp 5) Try.underlying26 ?_ ?_ ?_ ?_ ?_ ?_
       · rfl
       · rfl
       · rfl
       · rfl
       · (rw [yC_size]; exact nonInfo))
    | (with_reducible refine load_b ((BK.chg k2 (by simp)).chg k3 (by simp)) 23 (.tmp 4) Try.underlying23 ?_ ?_ ?_ ?_ ?_ ?_
       · rfl
       · rfl
       · rfl
       · rfl
       · (rw [yC_size]; exact keyInfo))
    | (with_reducible refine alloc_w rfl 58 rfl (.agg (yC 16 (fun _ => 0))) zeroTag (yC 16 (fun _ => 0)) rfl ?_; intro rb w3 hrb BR k3)
    | (have _h := BK; refine box_w rfl 26 _ rfl (yC 12 nn) rfl ?_; intro nb w2 hnb BN k2)
    | (refine box_w rfl 23 _ rfl (yC 32 k) rfl ?_; intro kb w1 hkb BK k1))
  refine (HB.out w3).mono ?_
  rintro e w4 ⟨rfl, k4⟩
  go_wp2_with (first
    | (have _h := BT6; with_reducible refine alloc_w rfl 23 rfl (.agg (yC 32 z0)) zeroKey (yC 32 z0) rfl ?_; intro ob' w7 hob BO k7)
    | (refine store_w BT rfl 51 _ _ (yC 64 F) rfl rfl rfl (by rw [yC_size]; exact b64Info) (by rw [yC_size, yC_size]) (yC_one 64 _) ?_; intro w6 BT6 k6)
    | (with_reducible refine alloc_w rfl 51 rfl (.agg (yC 64 (fun _ => 0))) zeroB64 (yC 64 (fun _ => 0)) rfl ?_; intro tb w5 htb BT k5))
  have K4 : Chg w w4 [] := ((k1.trans1 k2).trans1 k3).trans1 k4
  have HTB : Hid (¬ tb = rb ∧ w.heap.size ≤ tb ∧ w.heap.size ≤ rb) := ⟨by have := (BR.chg k4 (by simp)).lt; omega, by have := K4.size; omega, by have := (k1.trans1 k2).size; omega⟩
  have K7 : Chg w w7 [] := ((K4.trans1 k5).new k6 HTB.out.2.1).trans1 k7
  have BR7 := (((BR.chg k4 (by simp)).chg k5 (by simp)).chg k6 (by have := HTB.out; simp; omega)).chg k7 (by simp)
  have BT7 := BT6.chg k7 (by simp)
  have HOB : Hid ((¬ ob' = rb ∧ ¬ ob' = tb) ∧ w.heap.size ≤ ob') := ⟨⟨by have := BR7.lt; have := (((BR.chg k4 (by simp)).chg k5 (by simp)).chg k6 (by have := HTB.out; simp; omega)).lt; omega, by have := BT6.lt; omega⟩, by have := ((K4.trans1 k5).new k6 HTB.out.2.1).size; omega⟩
  clear BK BN BR BT BT6 k1 k2 k3 k4 k5 k6 k7 K4 hkb hnb hrb htb hob
  refine lt_begin (fun _ => True) (fun _ => false) (by kernel_rfl) ?_
  replace BR7 := BR7.drew
  replace BT7 := BT7.drew
  replace BO := BO.drew
  replace K7 := K7.drew
  obtain ⟨z, hz⟩ : ∃ z, z = w7.drew := ⟨_, rfl⟩
  rw [← hz] at BR7 BT7 BO K7 ⊢
  clear hz
  refine lt_val (v := (.slice (some ⟨ob', 0, none⟩) 32 32)) 0 (some 15) rfl (by kernel_rfl) (by kernel_rfl) (by kernel_rfl) (fun _ _ _ h => h) rfl rfl (fun w => ?_) ?_
  · (go_simp; try with_reducible rfl)
  try simp only [Act.put, List.setIfInBounds_toArray, List.set_cons_zero, List.set_cons_succ]
  refine lt_val (v := (.slice (some ⟨tb, 0, none⟩) 32 64)) 1 (some 16) rfl (by kernel_rfl) (by kernel_rfl) (by kernel_rfl) (fun _ _ _ h => h) rfl rfl (fun w => ?_) ?_
  · (go_simp; try with_reducible rfl)
  try simp only [Act.put, List.setIfInBounds_toArray, List.set_cons_zero, List.set_cons_succ]
  refine lt_one 2 rfl (by kernel_rfl) rfl (fun K hK => ?_)
  refine copy_yz (.tmp 15) (.tmp 16) 27 27 rfl 5 Try.underlying27 u8Inf ob' 0 32 32 (some ⟨tb, 0, none⟩) 32 64 rfl rfl 32 z0 23 BO 32 F rfl (by omega) ⟨tb, 0, rfl, fun j hj => by rw [BT7.cell, Nat.zero_add, yC_get _ _ _ (by omega)]⟩ (by omega) ?_
  intro w8 BO8 k8
  change K (Act.put _ (some 17) _) _
  refine hK.out _ _ (fun _ h => h) ?_
  clear hK K
  try simp only [Act.put, List.setIfInBounds_toArray, List.set_cons_zero, List.set_cons_succ]
  refine lt_done (by kernel_rfl) ?_ _
  rw [lay_all] at BO8
  have K8 : Chg w w8 [] := K7.new k8 HOB.out.2
  have BR8 := BR7.chg k8 (by have := HOB.out; simp; omega)
  clear K7 BR7 BT7 k8 BO
  obtain ⟨b0, hb0⟩ : ∃ x, w8.heap.size = x := ⟨_, rfl⟩
  have HB0 : Hid (w8.heap.size = b0 ∧ w.heap.size ≤ b0) := ⟨hb0, by have := K8.size; omega⟩
  clear hb0
  go_wp2_with (refine append_zl rfl (.tmp 18) (.tmp 19) rfl b0 (.slice none 0 0) (.slice p0 n0 c0) 0 n0 f0 f0 rfl rfl (Own.nil _ _ f0) (HV.out.1.1.kept K8) (by have := HV.out; omega) (by have := HB0.out; omega) ?_; intro a1 w9 O9 k9; rw [Nat.zero_add, cat_zero] at O9; replace k9 : Chg w8 w9 [] := k9)
  refine (filled_r a1 n0 f0 b0 w9 O9 (by have := HB0.out; have := k9.size; omega) (by have := HV.out; omega)).mono ?_
  rintro e w10 ⟨a2, rfl, O10, C10, Q10⟩
  have CC : Cb b0 w8 w10 := (Cb.none k9).trans C10
  have QQ : Kp w8 w10 := (Kp.of k9).trans Q10
  clear O9 k9 C10 Q10
  go_wp2_with (refine append_zl rfl (.tmp 22) (.tmp 23) rfl b0 a2 (.slice p1 n1 c1) (pd n0) n1 (fz n0 f0) f1 rfl rfl O10 (HV.out.1.2.kept (Cb.low K8 CC HB0.out.2)) (by have := HV.out; have := HP.out; omega) (by have := HB0.out; have := CC.size; omega) ?_; intro a3 w11 O11 k11)
  replace CC := CC.trans (O10.cb k11)
  replace QQ := QQ.trans (O10.kp k11)
  clear O10 k11
  refine (filled_r a3 (pd n0 + n1) (cat (fz n0 f0) (pd n0) f1) b0 w11 O11 (by have := HB0.out; have := CC.size; omega) (by have := HV.out; have := HP.out; omega)).mono ?_
  rintro e w12 ⟨a4, rfl, O12, C12, Q12⟩
  rw [pd_add] at O12
  replace CC := CC.trans C12
  replace QQ := QQ.trans Q12
  clear O11 C12 Q12
  go_wp2_with fail
  refine (eight_r n0 (by have := HV.out; omega) w12).mono ?_
  rintro e w13 ⟨v13, rfl, O13, k13⟩
  replace O12 := O12.chg k13 (by simp)
  replace CC := CC.trans (Cb.none k13)
  replace QQ := QQ.trans (Kp.of k13)
  clear k13
  go_wp2_with (refine append_zl rfl (.tmp 26) (.tmp 29) rfl b0 a4 v13 (pd n0 + pd n1) 8 _ (e8 n0) rfl rfl O12 O13.sz (by have := HV.out; have := HP.out; omega) (by have := HB0.out; have := CC.size; omega) ?_; intro a5 w14 O14 k14)
  replace CC := CC.trans (O12.cb k14)
  replace QQ := QQ.trans (O12.kp k14)
  clear O12 O13 k14
  refine (eight_r n1 (by have := HV.out; omega) w14).mono ?_
  rintro e w15 ⟨v15, rfl, O15, k15⟩
  replace O14 := O14.chg k15 (by simp)
  replace CC := CC.trans (Cb.none k15)
  replace QQ := QQ.trans (Kp.of k15)
  clear k15
  go_wp2_with (first
    | (refine append_zl rfl (.tmp 31) (.tmp 34) rfl b0 a5 v15 (pd n0 + pd n1 + 8) 8 _ (e8 n1) rfl rfl O14 O15.sz (by have := HV.out; have := HP.out; omega) (by have := HB0.out; have := CC.size; omega) ?_; intro a6 w16 O16 k16; have BO16 : Blk w16 ob' (yC 32 F) 23 := (QQ.trans (O14.kp k16)) ob' _ 23 (by decide) BO8)
    | (with_reducible refine load_b BO16 23 (.tmp 10) Try.underlying23 ?_ ?_ ?_ ?_ ?_ ?_
       · rfl
       · rfl
       · rfl
       · rfl
       · (rw [yC_size]; exact keyInfo)))
  replace CC := CC.trans (O14.cb k16)
  replace QQ := QQ.trans (O14.kp k16)
  have O16' : Own w16 b0 a6 (pd n0 + pd n1 + 8 + 8) (tgF n0 f0 n1 f1) := O16
  have K16 : Chg w w16 [] := Cb.low K8 CC HB0.out.2
  have BR16 : Blk w16 rb (yC 16 (fun _ => 0)) 58 := QQ rb _ 58 (by decide) BR8
  clear O14 O15 O16 k16 CC QQ BR8 K8 BO8
  refine (Mac_r F (fun i _ => HF.out i) a6 (pd n0 + pd n1 + 8 + 8) (tgF n0 f0 n1 f1) w16 O16'.sz (by have := HV.out; have := HP.out; omega)).mono ?_
  rw [HT.out]
  rintro e w17 ⟨rfl, k17⟩
  have BR17 := BR16.chg k17 (by simp)
  go_wp2_with (refine store_w BR17 rfl 58 _ _ (yC 16 T) rfl rfl rfl (by rw [yC_size]; exact tagInfo) (by rw [yC_size, yC_size]) (yC_one 16 _) ?_; intro w18 BR18 k18)
  exact bodyPost_ret (results_cell_row Try.results60 _ _ rb 58 (yC 16 T) (0, 0) _ rfl BR18 Try.underlying58 rfl (by rw [yC_size]; exact tagInfo)) rfl ⟨rfl, (K16.trans1 k17).new k18 HTB.out.2.2⟩
end Go.Proofs.Ytachilkhbfpahaa
