/- rimeref12: Seal, Open. -/
import Derived.Test.YtachilkhbfpahaaSrTg
import Derived.Test.YtachilkhbfpahaaSeZc
import Derived.Test.YtachilkhbfpahaaSeLc
set_option linter.unusedVariables false
set_option linter.unusedSimpArgs false
set_option linter.unnecessarySimpa false
namespace Go.Proofs.Ytachilkhbfpahaa
open Go.RowKit

set_option maxHeartbeats 16000000 in
set_option maxRecDepth 100000 in
theorem Seal_r (k nn : Nat → Nat) (hk : ∀ i, i < 32 → k i < 256) (hn : ∀ i, i < 12 → nn i < 256) (v0 : Value) (n0 : Nat) (f0 : Nat → Nat) (v1 : Value) (n1 : Nat) (f1 : Nat → Nat) (w : World) (hv0 : Sz w v0 n0 f0) (hv1 : Sz w v1 n1 f1) (h0 : n0 ≤ 1099511627776) (h1 : n1 ≤ 274877906880) :
    Calls Try.prog 23 #[.agg (yC 32 k), .agg (yC 12 nn), v0, v1] w fun e w' => CyQ w (n1 + 16) (sealB k nn n0 f0 n1 f1) e w' := by
  have HST : Hid (∀ w' b0, Sz w' v1 n1 f1 → w'.heap.size = b0 → Calls Try.prog 11 #[.agg (yC 32 k), .int .u32 1, .agg (yC 12 nn), v1] w' fun e w'' => AnsO w' b0 n1 (xo f1 (ks k 1 nn)) e w'') := fun w' b0 h hb => Stream_r k nn 1 hk hn (by unfold V; omega) v1 n1 f1 w' h (by omega) b0 hb
  have HTG : Hid (∀ w' vx, Sz w' v0 n0 f0 → Sz w' vx n1 (xo f1 (ks k 1 nn)) → Calls Try.prog 60 #[.agg (yC 32 k), .agg (yC 12 nn), v0, vx] w' fun e w'' => e = .returned (.agg (yC 16 (tagT k nn n0 f0 n1 (xo f1 (ks k 1 nn))))) ∧ Chg w' w'' []) := fun w' vx a b => tag_r k nn hk hn v0 n0 f0 vx n1 _ w' a b h0 (by omega)
  have HTL : Hid (∀ i, tagT k nn n0 f0 n1 (xo f1 (ks k 1 nn)) i < 256) := fun i => tagT_lt _ _ _ _ _ _ i
  have HSB : Hid (sealB k nn n0 f0 n1 f1 = cat (xo f1 (ks k 1 nn)) n1 (tagT k nn n0 f0 n1 (xo f1 (ks k 1 nn)))) := rfl
  obtain ⟨T, hT⟩ : ∃ T, tagT k nn n0 f0 n1 (xo f1 (ks k 1 nn)) = T := ⟨_, rfl⟩
  rw [hT] at HTG HTL HSB
  obtain ⟨X, hX⟩ : ∃ X, xo f1 (ks k 1 nn) = X := ⟨_, rfl⟩
  rw [hX] at HST HTG HSB
  obtain ⟨Z, hZ⟩ : ∃ Z, sealB k nn n0 f0 n1 f1 = Z := ⟨_, rfl⟩
  rw [hZ] at HSB ⊢
  have HV : Hid ((Sz w v0 n0 f0 ∧ Sz w v1 n1 f1) ∧ n0 ≤ 1099511627776 ∧ n1 ≤ 274877906880) := ⟨⟨hv0, hv1⟩, h0, h1⟩
  obtain ⟨b0, hb0⟩ : ∃ x, w.heap.size = x := ⟨_, rfl⟩
  have HB0 : Hid (w.heap.size = b0) := hb0
  clear hk hn hT hX hZ hv0 hv1 h0 h1 hb0
  go_enter Try.func23, Try.ntmps23
  go_wp2_with (first
    | (with_reducible refine load_b BN 26 (.tmp 5) Try.underlying26 ?_ ?_ ?_ ?_ ?_ ?_
       · rfl
       · rfl
       · rfl
       · rfl
       · (rw [yC_size]; exact nonInfo))
    | (with_reducible refine load_b (BK.chg k2 (by simp)) 23 (.tmp 4) Try.underlying23 ?_ ?_ ?_ ?_ ?_ ?_
       · rfl
       · rfl
       · rfl
       · rfl
       · (rw [yC_size]; exact keyInfo))
    | (have _h := BK; refine box_w rfl 26 _ rfl (yC 12 nn) rfl ?_; intro nb w2 hnb BN k2)
    | (refine box_w rfl 23 _ rfl (yC 32 k) rfl ?_; intro kb w1 hkb BK k1))
  refine (HST.out w2 w2.heap.size (HV.out.1.2.kept (k1.trans1 k2)) rfl).mono ?_
  rintro e w3 ⟨vx, rfl, O3, k3⟩
  have K3 := (k1.trans1 k2).trans1 k3
  have BK3 := (BK.chg k2 (by simp)).chg k3 (by simp)
  have BN3 := BN.chg k3 (by simp)
  have O3b : Own w3 b0 vx n1 X := O3.base (by have := (k1.trans1 k2).size; have := HB0.out; omega)
  clear BK BN k1 k2 k3 hkb hnb O3
  go_wp2_with (first
    | (with_reducible refine load_b BN3 26 (.tmp 5) Try.underlying26 ?_ ?_ ?_ ?_ ?_ ?_
       · rfl
       · rfl
       · rfl
       · rfl
       · (rw [yC_size]; exact nonInfo))
    | (with_reducible refine load_b BK3 23 (.tmp 4) Try.underlying23 ?_ ?_ ?_ ?_ ?_ ?_
       · rfl
       · rfl
       · rfl
       · rfl
       · (rw [yC_size]; exact keyInfo)))
  refine (HTG.out w3 vx (HV.out.1.1.kept K3) O3b.sz).mono ?_
  rintro e w4 ⟨rfl, k4⟩
  have K4 := K3.trans1 k4
  have O4 := O3b.chg k4 (by simp)
  clear BK3 BN3 K3 O3b k4
  go_wp2_with (first
    | (have hT6 := O5.nt BT (by decide); have O6 : Own w6 b0 vx n1 X := O5.chg k6 (fun x hx h => by simp at h; subst h; exact hT6 hx); have z6 : b0 ≤ w6.heap.size := by (have := K4.size; have := k5.size; have := k6.size; have := HB0.out; omega)
       refine append_zl rfl (.tmp 24) (.tmp 25) rfl b0 vx (.slice (some ⟨tb, 0, none⟩) 16 16) n1 16 X T rfl rfl O6 (BT6.szn (fun i _ => HTL.out i) (by decide)) (by have := HV.out; omega) z6 ?_; intro v' w7 O7 k7; have C7 := O6.cb k7)
    | (refine store_w BT rfl 58 _ _ (yC 16 T) rfl rfl rfl (by rw [yC_size]; exact tagInfo) (by rw [yC_size, yC_size]) (yC_one 16 _) ?_; intro w6 BT6 k6)
    | (with_reducible refine alloc_w rfl 58 rfl (.agg (yC 16 (fun _ => 0))) zeroTag (yC 16 (fun _ => 0)) rfl ?_; intro tb w5 htb BT k5; have O5 := O4.chg k5 (by simp)))
  go_ret
  refine ⟨v', rfl, by rw [HSB.out, HB0.out]; exact O7, Cb.low ((K4.trans1 k5).new k6 (by have := K4.size; omega)) C7 (by have := HB0.out; omega)⟩
set_option maxHeartbeats 8000000 in
set_option maxRecDepth 100000 in
theorem Open_rshort (k nn : Nat → Nat) (v0 v1 : Value) (n1 : Nat) (f1 : Nat → Nat) (w : World) (hv1 : Sz w v1 n1 f1) (hs : n1 < 16) :
    Calls Try.prog 21 #[.agg (yC 32 k), .agg (yC 12 nn), v0, v1] w fun e w' => e = .returned (.tuple #[.slice none 0 0, .int .i64 3]) ∧ Chg w w' [] := by
  obtain ⟨p1, c1, e1, _⟩ := id hv1
  subst e1
  have d1 : IntKind.i64.wrap ((n1 : Int) - 16) = (n1 : Int) - 16 := by rw [IntKind.wrap_i64]; omega
  have hI : (n1 : Int) - 16 < 0 := by omega
  clear hv1 hs
  go_enter Try.func21, Try.ntmps21
  go_wp2_with (first
    | (have _h := BK; refine box_w rfl 26 _ rfl (yC 12 nn) rfl ?_; intro nb w2 hnb BN k2)
    | (refine box_w rfl 23 _ rfl (yC 32 k) rfl ?_; intro kb w1 hkb BK k1))
  go_ret2
  exact ⟨rfl, k1.trans1 k2⟩
def OrA (z : World) (T : Nat → Nat) (v : Value) (w' : World) : Prop := v = .agg (yC 16 T) ∧ Chg z w' []
def OrC (z : World) (u : Value) (w' : World) : Prop := ∃ g, u = .pointer (some ⟨g, 0, none⟩) ∧ z.heap.size ≤ g ∧ Blk w' g (yC 16 fun _ => 0) 58 ∧ Chg z w' []
def OrAC (z : World) (T : Nat → Nat) (v u : Value) (w' : World) : Prop := v = .agg (yC 16 T) ∧ (∃ g, u = .pointer (some ⟨g, 0, none⟩) ∧ z.heap.size ≤ g ∧ Blk w' g (yC 16 fun _ => 0) 58) ∧ Chg z w' []
/-- What the document's Open answers for 16 bytes and more. -/
def OpR (w : World) (b0 : Nat) (b : Bool) (N : Nat) (F : Nat → Nat) (e : Ending) (w' : World) : Prop := (b = true ∧ AnsO w b0 N F e w') ∨ (b = false ∧ e = .returned (.tuple #[.slice none 0 0, .int .i64 121]) ∧ Chg w w' [])
set_option maxHeartbeats 16000000 in
set_option maxRecDepth 100000 in
theorem Open_r (k nn : Nat → Nat) (hk : ∀ i, i < 32 → k i < 256) (hn : ∀ i, i < 12 → nn i < 256) (v0 : Value) (n0 : Nat) (f0 : Nat → Nat) (v1 : Value) (N : Nat) (f : Nat → Nat) (w : World) (hv0 : Sz w v0 n0 f0) (hv1 : Sz w v1 (N + 16) f) (h0 : n0 ≤ 1099511627776) (hN : N ≤ 274877906880) (b0 : Nat) (hb0 : w.heap.size = b0) :
    Calls Try.prog 21 #[.agg (yC 32 k), .agg (yC 12 nn), v0, v1] w fun e w' => OpR w b0 (tagged k nn n0 f0 N f) N (xo f (ks k 1 nn)) e w' := by
  have HST : Hid (∀ w' b0 vx, Sz w' vx N f → w'.heap.size = b0 → Calls Try.prog 11 #[.agg (yC 32 k), .int .u32 1, .agg (yC 12 nn), vx] w' fun e w'' => AnsO w' b0 N (xo f (ks k 1 nn)) e w'') := fun w' b0 vx h hb => Stream_r k nn 1 hk hn (by unfold V; omega) vx N f w' h (by omega) b0 hb
  have HTG : Hid (∀ w' vx, Sz w' v0 n0 f0 → Sz w' vx N f → Calls Try.prog 60 #[.agg (yC 32 k), .agg (yC 12 nn), v0, vx] w' fun e w'' => e = .returned (.agg (yC 16 (tagT k nn n0 f0 N f))) ∧ Chg w' w'' []) := fun w' vx a b => tag_r k nn hk hn v0 n0 f0 vx N f w' a b h0 (by omega)
  have HEQ : Hid (tagged k nn n0 f0 N f = eqn 16 (fun i => f (N + i)) (tagT k nn n0 f0 N f)) := rfl
  have HTL : Hid (∀ i, tagT k nn n0 f0 N f i < 256) := fun i => tagT_lt _ _ _ _ _ _ i
  obtain ⟨bb, hbb⟩ : ∃ b, tagged k nn n0 f0 N f = b := ⟨_, rfl⟩
  rw [hbb] at HEQ ⊢
  obtain ⟨T, hT⟩ : ∃ T, tagT k nn n0 f0 N f = T := ⟨_, rfl⟩
  rw [hT] at HTG HTL HEQ
  obtain ⟨X, hX⟩ : ∃ X, xo f (ks k 1 nn) = X := ⟨_, rfl⟩
  rw [hX] at HST ⊢
  obtain ⟨p1, c, e1, h1, h2, h3⟩ := hv1
  subst e1
  obtain ⟨g, o, rfl, hb⟩ := h3 (by omega)
  have HB : Hid (Bs w g o (N + 16) f ∧ N + 16 ≤ c ∧ c ≤ 9223372036854775807) := ⟨hb, h1, h2⟩
  have HS1 : Hid (Sz w (.slice (some ⟨g, o, none⟩) N c) N f ∧ Sz w v0 n0 f0) := ⟨⟨_, c, rfl, by omega, h2, fun _ => ⟨g, o, rfl, hb.lt, fun i hi => hb.bd i (by omega), fun i hi => hb.cell i (by omega)⟩⟩, hv0⟩
  have HB0 : Hid (w.heap.size = b0) := hb0
  obtain ⟨n, hnn⟩ : ∃ n, N + 16 = n := ⟨_, rfl⟩
  have HNN : Hid (N + 16 = n ∧ N ≤ 274877906880) := ⟨hnn, hN⟩
  have d1 : IntKind.i64.wrap ((n : Int) - 16) = (N : Int) := by rw [IntKind.wrap_i64]; omega
  have d0 : (n : Int) - 16 = (N : Int) := by omega
  have d3 : IntKind.i64.wrap (N : Int) = (N : Int) := by rw [IntKind.wrap_i64]; omega
  have hI : ¬ (N : Int) < 0 := by omega
  have i1 : (N : Int) ≤ (n : Int) := by omega
  have i2 : (n : Int) ≤ (c : Int) := by omega
  have i3 : (N : Int) ≤ (c : Int) := by omega
  rw [hnn]
  clear hk hn hT hX hbb hv0 h0 h1 h2 h3 hb hb0 hnn hN
  go_enter Try.func21, Try.ntmps21
  go_wp2_with (first
    | (have _h := BK; refine box_w rfl 26 _ rfl (yC 12 nn) rfl ?_; intro nb w2 hnb BN k2)
    | (refine box_w rfl 23 _ rfl (yC 32 k) rfl ?_; intro kb w1 hkb BK k1))
  refine lt_begin (fun w' => Blk w' kb (yC 32 k) 23 ∧ Blk w' nb (yC 12 nn) 26) (fun _ => false) (by kernel_rfl) ?_
  have hHeld := And.intro (BK.chg k2 (by simp)).drew BN.drew
  have K2 : Chg w w2.drew [] := (k1.trans1 k2).drew
  obtain ⟨z, hz⟩ : ∃ z, z = w2.drew := ⟨_, rfl⟩
  rw [← hz] at hHeld K2 ⊢
  clear hz BK BN k1 k2 hkb hnb
  refine lt_read (v := (.agg (yC 32 k))) 0 (some 20) rfl (by kernel_rfl) (by kernel_rfl) (by kernel_rfl) (by kernel_rfl) (fun _ _ _ h => h) rfl rfl (fun w hSw => ?_) hHeld ?_
  · skip; exact (exec_load_b w 23 (.tmp 4) rfl kb rfl hSw.1 Try.underlying23 rfl (by rw [yC_size]; exact keyInfo))
  try simp only [Act.put, List.setIfInBounds_toArray, List.set_cons_zero, List.set_cons_succ]
  refine lt_read (v := (.agg (yC 12 nn))) 1 (some 21) rfl (by kernel_rfl) (by kernel_rfl) (by kernel_rfl) (by kernel_rfl) (fun _ _ _ h => h) rfl rfl (fun w hSw => ?_) hHeld ?_
  · skip; exact (exec_load_b w 26 (.tmp 5) rfl nb rfl hSw.2 Try.underlying26 rfl (by rw [yC_size]; exact nonInfo))
  try simp only [Act.put, List.setIfInBounds_toArray, List.set_cons_zero, List.set_cons_succ]
  refine lt_val (v := ?_) 2 (some 22) rfl (by kernel_rfl) (by kernel_rfl) (by kernel_rfl) (fun _ _ _ h => h) rfl rfl (fun w => ?_) ?_
  rotate_left
  · (go_simp; try with_reducible rfl)
  try simp only [Act.put, List.setIfInBounds_toArray, List.set_cons_zero, List.set_cons_succ]
  refine lt_val (v := ?_) 3 (some 23) rfl (by kernel_rfl) (by kernel_rfl) (by kernel_rfl) (fun _ _ _ h => h) rfl rfl (fun w => ?_) ?_
  rotate_left
  · (go_simp; try with_reducible rfl)
  try simp only [Act.put, List.setIfInBounds_toArray, List.set_cons_zero, List.set_cons_succ]
  refine lt_val (v := ?_) 4 (some 24) rfl (by kernel_rfl) (by kernel_rfl) (by kernel_rfl) (fun _ _ _ h => h) rfl rfl (fun w => ?_) ?_
  rotate_left
  · (go_simp; try with_reducible rfl)
  try simp only [Act.put, List.setIfInBounds_toArray, List.set_cons_zero, List.set_cons_succ]
  refine lt_val (v := (.slice (some ⟨g, o, none⟩) N c)) 5 (some 25) rfl (by kernel_rfl) (by kernel_rfl) (by kernel_rfl) (fun _ _ _ h => h) rfl rfl (fun w => ?_) ?_
  · (go_simp; try with_reducible rfl)
  try simp only [Act.put, List.setIfInBounds_toArray, List.set_cons_zero, List.set_cons_succ]
  refine lt_cc 6 7 rfl rfl (by kernel_rfl) (by kernel_rfl) (by kernel_rfl) rfl rfl (by decide) 26 11 (by decide) (OrA z T) (OrC z) (OrAC z T) (fun K hK => ?_) (fun v w' K hA hK => ?_) (fun K hK => ?_) (fun u w' K hC hK => ?_) (fun _ _ h => ⟨hHeld.1.chg h.2 (by simp), hHeld.2.chg h.2 (by simp)⟩) (fun _ _ h => by obtain ⟨_, _, _, _, h⟩ := h; exact ⟨hHeld.1.chg h (by simp), hHeld.2.chg h (by simp)⟩) (fun _ _ _ h => ⟨hHeld.1.chg h.2.2 (by simp), hHeld.2.chg h.2.2 (by simp)⟩) (fun v u w5 hAC => ?_)
  · go_simp
    refine (HTG.out z (.slice (some ⟨g, o, none⟩) N c) (HS1.out.2.kept K2) (HS1.out.1.kept K2)).mono ?_
    rintro e wA ⟨rfl, kA⟩
    go_wp2_with fail
    exact hK.out _ _ ⟨rfl, kA⟩
  · obtain ⟨rfl, kA⟩ := hA
    refine wp_alloc_w 58 rfl (.agg (yC 16 (fun _ => 0))) zeroTag (yC 16 (fun _ => 0)) rfl ?_
    intro gt wB hg BX kB
    exact hK.out _ _ ⟨rfl, ⟨gt, rfl, Nat.le_trans kA.size hg, BX⟩, kA.trans1 kB⟩
  · refine wp_alloc_w 58 rfl (.agg (yC 16 (fun _ => 0))) zeroTag (yC 16 (fun _ => 0)) rfl ?_
    intro gt wB hg BX kB
    exact hK.out _ _ ⟨gt, rfl, hg, BX, kB⟩
  · obtain ⟨gt, rfl, hg, BX, kB⟩ := hC
    go_simp
    refine (HTG.out w' (.slice (some ⟨g, o, none⟩) N c) (HS1.out.2.kept (K2.trans1 kB)) (HS1.out.1.kept (K2.trans1 kB))).mono ?_
    rintro e wA ⟨rfl, kA⟩
    go_wp2_with fail
    exact hK.out _ _ ⟨rfl, ⟨gt, rfl, hg, BX.chg kA (by simp)⟩, kB.trans1 kA⟩
  obtain ⟨rfl, ⟨tb, rfl, htb, BT⟩, k5⟩ := hAC
  have HTB : Hid ((¬ tb = kb ∧ ¬ tb = nb) ∧ w.heap.size ≤ tb ∧ ¬ tb = g) := ⟨⟨by have := hHeld.1.lt; omega, by have := hHeld.2.lt; omega⟩, by have := K2.size; omega, by have := HB.out.1.lt; have := K2.size; omega⟩
  have BK5 := hHeld.1.chg k5 (by simp)
  have BN5 := hHeld.2.chg k5 (by simp)
  have K5 := K2.trans1 k5
  clear hHeld htb k5 K2
  try simp only [Act.put, List.setIfInBounds_toArray, List.set_cons_zero, List.set_cons_succ]
  refine lt_one 8 rfl (by kernel_rfl) rfl (fun K hK => ?_)
  refine wp_store_w BT 58 (.tmp 11) (.tmp 26) (yC 16 T) rfl rfl rfl (by rw [yC_size]; exact tagInfo) (by rw [yC_size, yC_size]) (yC_one 16 _) ?_
  intro w6 BT6 k6
  change K (Act.put _ none _) _
  refine hK.out _ _ (fun _ h => ⟨h.1.chg k6 (by have := HTB.out; simp; omega), h.2.chg k6 (by have := HTB.out; simp; omega)⟩) ?_
  clear hK K
  try simp only [Act.put, List.setIfInBounds_toArray, List.set_cons_zero, List.set_cons_succ]
  refine lt_done (by kernel_rfl) ?_ _
  have BK6 := BK5.chg k6 (by have := HTB.out; simp; omega)
  have BN6 := BN5.chg k6 (by have := HTB.out; simp; omega)
  have K6 : Chg w w6 [] := K5.new k6 HTB.out.2.1
  clear BK5 BN5 K5 k6 BT
  go_wp2_with fail
  have H0 : Hid (∀ j, j < 0 → f (N + j) = T j) := fun j hj => by omega
  go_loopw [12] (fun t12 wr => ∃ i : Nat, i ≤ 16 ∧ t12 = .int .i64 (i : Int) ∧ Hid (∀ j, j < i → f (N + j) = T j) ∧ Chg w6 wr []) (fun t12 _ => (16 - intOf t12).toNat)
  case atStart => exact ⟨0, by omega, rfl, H0, Chg.refl _ _⟩
  case round =>
    clear H0
    obtain ⟨i, hi, rfl, HE, c0⟩ := hrel
    by_cases h16 : i < 16
    · have hI2 : (i : Int) < 16 := by omega
      have e1 : IntKind.i64.wrap ((i : Int) + 1) = (i : Int) + 1 := by rw [IntKind.wrap_i64]; omega
      obtain ⟨m, hm⟩ : ∃ m, N + i = m := ⟨_, rfl⟩
      have e2 : IntKind.i64.wrap ((N : Int) + (i : Int)) = (m : Int) := by have := HNN.out; rw [IntKind.wrap_i64]; omega
      have e3 : (N : Int) + (i : Int) = (m : Int) := by omega
      have e4 : IntKind.i64.wrap (m : Int) = (m : Int) := by have := HNN.out; rw [IntKind.wrap_i64]; omega
      have i5 : (m : Int) < (n : Int) := by have := HNN.out; omega
      have cS := (HB.out.1.chg (K6.trans1 c0) (by simp)).cell m (by have := HNN.out; omega)
      have cT := ((BT6.chg c0 (by simp)).cell i).trans (yC_get 16 T i h16)
      have HM : Hid (N + i = m ∧ i < 16) := ⟨hm, h16⟩
      by_cases hq : f m = T i
      · have HE2 : Hid (∀ j, j < i + 1 → f (N + j) = T j) := fun j hj => by
          by_cases h : j < i
          · exact HE.out j h
          · obtain rfl : j = i := by omega
            rw [hm]; exact hq
        rw [hq] at cS
        obtain ⟨A, hA⟩ : ∃ A, T i = A := ⟨_, rfl⟩
        rw [hA] at cS cT
        have hb : ((A : Int) != (A : Int)) = false := by simp
        clear hq hA HE hm h16 hi
        go_wp2_with fail
        go_quiet (fail)
        go_wp2_with fail
        exact ⟨⟨i + 1, by have := HM.out; omega, by go_num, HE2, c0.drewN _⟩, by simp [intOf]; have := HM.out; omega⟩
      · have HNO : Hid (bb = false) := by
          show bb = false
          rw [HEQ.out]
          exact eqn_no (fun h => hq (by rw [← hm]; exact h i h16))
        obtain ⟨A, hA⟩ : ∃ A, f m = A := ⟨_, rfl⟩
        obtain ⟨D, hD⟩ : ∃ D, T i = D := ⟨_, rfl⟩
        rw [hA] at cS
        rw [hD] at cT
        have hb : ((A : Int) != (D : Int)) = true := by simp; rw [hA, hD] at hq; omega
        clear hq hA hD HE hm h16 hi
        go_wp2_with fail
        go_quiet (fail)
        go_wp2_with fail
        go_ret2
        exact Or.inr ⟨HNO.out, rfl, (K6.trans1 c0).drewN _⟩
    · obtain rfl : i = 16 := by omega
      have hI2 : ¬ ((16 : Nat) : Int) < 16 := by omega
      have HYES : Hid (bb = true) := by
        show bb = true
        rw [HEQ.out]
        exact (eqn_iff 16 _ _).2 HE.out
      have BK7 := BK6.chg c0 (by simp)
      have BN7 := BN6.chg c0 (by simp)
      have K7 := K6.trans1 c0
      clear h16 hi HE BK6 BN6 BT6 K6 c0
      go_wp2_with fail
      refine lt_begin (fun w' => Blk w' kb (yC 32 k) 23 ∧ Blk w' nb (yC 12 nn) 26) (fun _ => false) (by kernel_rfl) ?_
      have hHeld := And.intro BK7.drew BN7.drew
      replace K7 := K7.drew
      obtain ⟨z8, hz⟩ : ∃ z, z = wr.drew := ⟨_, rfl⟩
      rw [← hz] at hHeld K7 ⊢
      clear hz BK7 BN7
      refine lt_read (v := (.agg (yC 32 k))) 0 (some 42) rfl (by kernel_rfl) (by kernel_rfl) (by kernel_rfl) (by kernel_rfl) (fun _ _ _ h => h) rfl rfl (fun w hSw => ?_) hHeld ?_
      · skip; exact (exec_load_b w 23 (.tmp 4) rfl kb rfl hSw.1 Try.underlying23 rfl (by rw [yC_size]; exact keyInfo))
      try simp only [Act.put, List.setIfInBounds_toArray, List.set_cons_zero, List.set_cons_succ]
      refine lt_read (v := (.agg (yC 12 nn))) 1 (some 43) rfl (by kernel_rfl) (by kernel_rfl) (by kernel_rfl) (by kernel_rfl) (fun _ _ _ h => h) rfl rfl (fun w hSw => ?_) hHeld ?_
      · skip; exact (exec_load_b w 26 (.tmp 5) rfl nb rfl hSw.2 Try.underlying26 rfl (by rw [yC_size]; exact nonInfo))
      try simp only [Act.put, List.setIfInBounds_toArray, List.set_cons_zero, List.set_cons_succ]
      refine lt_val (v := ?_) 2 (some 44) rfl (by kernel_rfl) (by kernel_rfl) (by kernel_rfl) (fun _ _ _ h => h) rfl rfl (fun w => ?_) ?_
      rotate_left
      · (go_simp; try with_reducible rfl)
      try simp only [Act.put, List.setIfInBounds_toArray, List.set_cons_zero, List.set_cons_succ]
      refine lt_val (v := ?_) 3 (some 45) rfl (by kernel_rfl) (by kernel_rfl) (by kernel_rfl) (fun _ _ _ h => h) rfl rfl (fun w => ?_) ?_
      rotate_left
      · (go_simp; try with_reducible rfl)
      try simp only [Act.put, List.setIfInBounds_toArray, List.set_cons_zero, List.set_cons_succ]
      refine lt_val (v := (.slice (some ⟨g, o, none⟩) N c)) 4 (some 46) rfl (by kernel_rfl) (by kernel_rfl) (by kernel_rfl) (fun _ _ _ h => h) rfl rfl (fun w => ?_) ?_
      · (go_simp; try with_reducible rfl)
      try simp only [Act.put, List.setIfInBounds_toArray, List.set_cons_zero, List.set_cons_succ]
      refine lt_one 5 rfl (by kernel_rfl) rfl (fun K hK => ?_)
      go_simp
      refine (HST.out z8 z8.heap.size (.slice (some ⟨g, o, none⟩) N c) (HS1.out.1.kept K7) rfl).mono ?_
      rintro e w9 ⟨v', rfl, O9, k9⟩
      go_wp2_with fail
      refine hK.out _ _ (fun _ h => ⟨h.1.chg k9 (by simp), h.2.chg k9 (by simp)⟩) ?_
      clear hK K
      try simp only [Act.put, List.setIfInBounds_toArray, List.set_cons_zero, List.set_cons_succ]
      refine lt_val (v := ?_) 6 (some 41) rfl (by kernel_rfl) (by kernel_rfl) (by kernel_rfl) (fun _ _ _ h => h) rfl rfl (fun w => ?_) ?_
      rotate_left
      · (go_simp; try with_reducible rfl)
      try simp only [Act.put, List.setIfInBounds_toArray, List.set_cons_zero, List.set_cons_succ]
      refine lt_val (v := ?_) 7 (some 48) rfl (by kernel_rfl) (by kernel_rfl) (by kernel_rfl) (fun _ _ _ h => h) rfl rfl (fun w => ?_) ?_
      rotate_left
      · (go_simp; try with_reducible rfl)
      try simp only [Act.put, List.setIfInBounds_toArray, List.set_cons_zero, List.set_cons_succ]
      refine lt_val (v := ?_) 8 (some 49) rfl (by kernel_rfl) (by kernel_rfl) (by kernel_rfl) (fun _ _ _ h => h) rfl rfl (fun w => ?_) ?_
      rotate_left
      · (go_simp; try with_reducible rfl)
      try simp only [Act.put, List.setIfInBounds_toArray, List.set_cons_zero, List.set_cons_succ]
      refine lt_val (v := ?_) 9 (some 13) rfl (by kernel_rfl) (by kernel_rfl) (by kernel_rfl) (fun _ _ _ h => h) rfl rfl (fun w => ?_) ?_
      rotate_left
      · (go_simp; try with_reducible rfl)
      try simp only [Act.put, List.setIfInBounds_toArray, List.set_cons_zero, List.set_cons_succ]
      refine lt_val (v := ?_) 10 (some 14) rfl (by kernel_rfl) (by kernel_rfl) (by kernel_rfl) (fun _ _ _ h => h) rfl rfl (fun w => ?_) ?_
      rotate_left
      · (go_simp; try with_reducible rfl)
      try simp only [Act.put, List.setIfInBounds_toArray, List.set_cons_zero, List.set_cons_succ]
      refine lt_done (by kernel_rfl) ?_ _
      have K9 := K7.trans1 k9
      have O9' : Own w9 b0 v' N X := O9.base (by have := K7.size; have := HB0.out; omega)
      go_wp2_with fail
      go_ret2
      exact Or.inl ⟨HYES.out, _, rfl, O9', K9⟩
end Go.Proofs.Ytachilkhbfpahaa
