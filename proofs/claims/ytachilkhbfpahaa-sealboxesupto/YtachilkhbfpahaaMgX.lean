/- Joined: SeLc, SrSe, SrBx, SrUb, SwA. -/
import Derived.Test.YtachilkhbfpahaaSeM
import Derived.Test.YtachilkhbfpahaaSrTg
import Derived.Test.YtachilkhbfpahaaSeZc
import Derived.Test.YtachilkhbfpahaaSeUb
import Derived.Test.YtachilkhbfpahaaSeBy
import Derived.Deep.DeepCutAuto
import Derived.Test.YtachilkhbfpahaaSwBl
import Derived.Test.YtachilkhbfpahaaSeCg
/- Two operations of a region that draws its order, in whatever order. Of no package. -/
set_option linter.unusedVariables false
set_option linter.unusedSimpArgs false
set_option linter.unnecessarySimpa false
namespace Go.Proofs.Ytachilkhbfpahaa
open Go.RowKit

section
variable {P : Program} {ops : Array Oper} {Q : Exit → Act → World → Prop} {md : Region.Mode} {S : World → Prop} {B : Nat → Bool}
/-- Two operations of a region that draws its order, in whatever order; what each leaves, said by the caller. -/
theorem lt_cc {oi oj : Oper} {fuel : Nat} {listed : Array Bool} {a : Act} {w : World} (i j : Nat) (hi : ops[i]? = some oi) (hj : ops[j]? = some oj) (hr : Region.ready md ops listed = [i, j]) (hri : Region.ready md ops (listed.setIfInBounds i true) = [j]) (hrj : Region.ready md ops (listed.setIfInBounds j true) = [i])
    (hgi : oi.guard = none) (hgj : oj.guard = none) (hne : i ≠ j) (di dj : Tmp) (hd : di ≠ dj)
    (A C : Value → World → Prop) (AC : Value → Value → World → Prop)
    (h1 : ∀ K, Hid (∀ v w', A v w' → K (a.put (some di) v) w') → Oper.wp P oi a w K Q)
    (h2 : ∀ v w K, A v w → Hid (∀ u w', AC v u w' → K ((a.put (some di) v).put (some dj) u) w') → Oper.wp P oj (a.put (some di) v) w K Q)
    (h3 : ∀ K, Hid (∀ u w', C u w' → K (a.put (some dj) u) w') → Oper.wp P oj a w K Q)
    (h4 : ∀ u w K, C u w → Hid (∀ v w', AC v u w' → K ((a.put (some dj) u).put (some di) v) w') → Oper.wp P oi (a.put (some dj) u) w K Q)
    (hS1 : ∀ v w, A v w → S w) (hS2 : ∀ u w, C u w → S w) (hS3 : ∀ v u w, AC v u w → S w)
    (h : ∀ v u w', AC v u w' → wpAnyL P md ops Q S B fuel ((listed.setIfInBounds i true).setIfInBounds j true) ((a.put (some di) v).put (some dj) u) w') :
    wpAnyL P md ops Q S B (fuel + 1 + 1) listed a w := by
  refine ⟨fun h0 => absurd (hr ▸ h0) (by simp), fun x hx => ?_⟩
  rw [hr] at hx
  have hx' : x = i ∨ x = j := by simpa using hx
  rcases hx' with hx' | hx'
  · subst hx'
    refine wpOp_step hi (fun K hK => ?_)
    rw [if_pos (wanted_none hgi _)]
    refine h1 K fun v w1 q1 => hK _ _ ⟨fun _ _ => hS1 _ _ q1, fun h0 => absurd (hri ▸ h0) (by simp), fun y hy => ?_⟩
    rw [hri] at hy
    obtain rfl : y = j := by simpa using hy
    refine wpOp_step hj (fun K2 hK2 => ?_)
    rw [if_pos (wanted_none hgj _)]
    exact h2 v w1 K2 q1 fun u w2 q2 => hK2 _ _ ⟨fun _ _ => hS3 _ _ _ q2, h v u w2 q2⟩
  · subst hx'
    refine wpOp_step hj (fun K hK => ?_)
    rw [if_pos (wanted_none hgj _)]
    refine h3 K fun u w1 q1 => hK _ _ ⟨fun _ _ => hS2 _ _ q1, fun h0 => absurd (hrj ▸ h0) (by simp), fun y hy => ?_⟩
    rw [hrj] at hy
    obtain rfl : y = i := by simpa using hy
    refine wpOp_step hi (fun K2 hK2 => ?_)
    rw [if_pos (wanted_none hgi _)]
    refine h4 u w1 K2 q1 fun v w2 q2 => hK2 _ _ ⟨fun _ _ => hS3 _ _ _ q2, ?_⟩
    rw [put_comm _ _ _ hd, Array.setIfInBounds_comm _ _ (Ne.symm hne)]
    exact h v u w2 q2
end
end Go.Proofs.Ytachilkhbfpahaa

/- rimeref12: Seal, Open. -/
namespace Go.Proofs.Ytachilkhbfpahaa
open Go.RowKit

set_option maxHeartbeats 16000000 in
set_option maxRecDepth 100000 in
theorem Seal_r (k nn : Nat → Nat) (hk : ∀ i, i < 32 → k i < 256) (hn : ∀ i, i < 12 → nn i < 256) (v0 : Value) (n0 : Nat) (f0 : Nat → Nat) (v1 : Value) (n1 : Nat) (f1 : Nat → Nat) (w : World) (hv0 : Sz w v0 n0 f0) (hv1 : Sz w v1 n1 f1) (h0 : n0 ≤ 1099511627776) (h1 : n1 ≤ 274877906880) :
    Calls Try.prog 23 #[.agg (yC 32 k), .agg (yC 12 nn), v0, v1] w fun e w' => CyQ w (n1 + 16) (sealB k nn n0 f0 n1 f1) e w' := by
  have HST : Hid (∀ w' b0, Sz w' v1 n1 f1 → w'.heap.size = b0 → Calls Try.prog 11 #[.agg (yC 32 k), .int .u32 1, .agg (yC 12 nn), v1] w' fun e w'' => AnsO w' b0 n1 (xo f1 (ks k 1 nn)) e w'') := fun w' b0 h hb => Stream_r k nn 1 hk hn (by unfold V; omega) v1 n1 f1 w' h (by omega) b0 hb
  have HTG : Hid (∀ w' vx, Sz w' v0 n0 f0 → Sz w' vx n1 (xo f1 (ks k 1 nn)) → Calls Try.prog 60 #[.agg (yC 32 k), .agg (yC 12 nn), v0, vx] w' fun e w'' => e = .returned (.agg (yC 16 (tagT k nn n0 f0 n1 (xo f1 (ks k 1 nn))))) ∧ Chg w' w'' []) := fun w' vx a b => tag_r k nn hk hn v0 n0 f0 vx n1 _ w' a b h0 (by omega)
  have HTL : Hid (∀ i, tagT k nn n0 f0 n1 (xo f1 (ks k 1 nn)) i < 256) := fun i => tagT_lt _ _ _ _ _ _ i
  have HSB : Hid (sealB k nn n0 f0 n1 f1 = cat (xo f1 (ks k 1 nn)) n1 (tagT k nn n0 f0 n1 (xo f1 (ks k 1 nn)))) := rfl
  obtain ⟨T, hT⟩ : ∃ T, tagT k nn n0 f0 n1 (xo f1 (ks k 1 nn)) = T := ⟨_, rfl⟩
  rw [hT] at HTG HTL HSB
  obtain ⟨X, hX⟩ : ∃ X, xo f1 (ks k 1 nn) = X := ⟨_, rfl⟩
  rw [hX] at HST HTG HSB
  obtain ⟨Z, hZ⟩ : ∃ Z, sealB k nn n0 f0 n1 f1 = Z := ⟨_, rfl⟩
  rw [hZ] at HSB ⊢
  have HV : Hid ((Sz w v0 n0 f0 ∧ Sz w v1 n1 f1) ∧ n0 ≤ 1099511627776 ∧ n1 ≤ 274877906880) := ⟨⟨hv0, hv1⟩, h0, h1⟩
  obtain ⟨b0, hb0⟩ : ∃ x, w.heap.size = x := ⟨_, rfl⟩
  have HB0 : Hid (w.heap.size = b0) := hb0
  clear hk hn hT hX hZ hv0 hv1 h0 h1 hb0
  go_enter Try.func23, Try.ntmps23
  go_wp2_with (first
    | (with_reducible refine load_b BN 26 (.tmp 5) Try.underlying26 ?_ ?_ ?_ ?_ ?_ ?_
       · rfl
       · rfl
       · rfl
       · rfl
       · (rw [yC_size]; exact nonInfo))
    | (with_reducible refine load_b (BK.chg k2 (by simp)) 23 (.tmp 4) Try.underlying23 ?_ ?_ ?_ ?_ ?_ ?_
       · rfl
       · rfl
       · rfl
       · rfl
       · (rw [yC_size]; exact keyInfo))
    | (have _h := BK; refine box_w rfl 26 _ rfl (yC 12 nn) rfl ?_; intro nb w2 hnb BN k2)
    | (refine box_w rfl 23 _ rfl (yC 32 k) rfl ?_; intro kb w1 hkb BK k1))
  refine (HST.out w2 w2.heap.size (HV.out.1.2.kept (k1.trans1 k2)) rfl).mono ?_
  rintro e w3 ⟨vx, rfl, O3, k3⟩
  have K3 := (k1.trans1 k2).trans1 k3
  have BK3 := (BK.chg k2 (by simp)).chg k3 (by simp)
  have BN3 := BN.chg k3 (by simp)
  have O3b : Own w3 b0 vx n1 X := O3.base (by have := (k1.trans1 k2).size; have := HB0.out; omega)
  clear BK BN k1 k2 k3 hkb hnb O3
  go_wp2_with (first
    | (with_reducible refine load_b BN3 26 (.tmp 5) Try.underlying26 ?_ ?_ ?_ ?_ ?_ ?_
       · rfl
       · rfl
       · rfl
       · rfl
       · (rw [yC_size]; exact nonInfo))
    | (with_reducible refine load_b BK3 23 (.tmp 4) Try.underlying23 ?_ ?_ ?_ ?_ ?_ ?_
       · rfl
       · rfl
       · rfl
       · rfl
       · (rw [yC_size]; exact keyInfo)))
  refine (HTG.out w3 vx (HV.out.1.1.kept K3) O3b.sz).mono ?_
  rintro e w4 ⟨rfl, k4⟩
  have K4 := K3.trans1 k4
  have O4 := O3b.chg k4 (by simp)
  clear BK3 BN3 K3 O3b k4
  go_wp2_with (first
    | (have hT6 := O5.nt BT (by decide); have O6 : Own w6 b0 vx n1 X := O5.chg k6 (fun x hx h => by simp at h; subst h; exact hT6 hx); have z6 : b0 ≤ w6.heap.size := by (have := K4.size; have := k5.size; have := k6.size; have := HB0.out; omega)
       refine append_zl rfl (.tmp 24) (.tmp 25) rfl b0 vx (.slice (some ⟨tb, 0, none⟩) 16 16) n1 16 X T rfl rfl O6 (BT6.szn (fun i _ => HTL.out i) (by decide)) (by have := HV.out; omega) z6 ?_; intro v' w7 O7 k7; have C7 := O6.cb k7)
    | (refine store_w BT rfl 58 _ _ (yC 16 T) rfl rfl rfl (by rw [yC_size]; exact tagInfo) (by rw [yC_size, yC_size]) (yC_one 16 _) ?_; intro w6 BT6 k6)
    | (with_reducible refine alloc_w rfl 58 rfl (.agg (yC 16 (fun _ => 0))) zeroTag (yC 16 (fun _ => 0)) rfl ?_; intro tb w5 htb BT k5; have O5 := O4.chg k5 (by simp)))
  go_ret
  refine ⟨v', rfl, by rw [HSB.out, HB0.out]; exact O7, Cb.low ((K4.trans1 k5).new k6 (by have := K4.size; omega)) C7 (by have := HB0.out; omega)⟩
set_option maxHeartbeats 8000000 in
set_option maxRecDepth 100000 in
theorem Open_rshort (k nn : Nat → Nat) (v0 v1 : Value) (n1 : Nat) (f1 : Nat → Nat) (w : World) (hv1 : Sz w v1 n1 f1) (hs : n1 < 16) :
    Calls Try.prog 21 #[.agg (yC 32 k), .agg (yC 12 nn), v0, v1] w fun e w' => e = .returned (.tuple #[.slice none 0 0, .int .i64 3]) ∧ Chg w w' [] := by
  obtain ⟨p1, c1, e1, _⟩ := id hv1
  subst e1
  have d1 : IntKind.i64.wrap ((n1 : Int) - 16) = (n1 : Int) - 16 := by rw [IntKind.wrap_i64]; omega
  have hI : (n1 : Int) - 16 < 0 := by omega
  clear hv1 hs
  go_enter Try.func21, Try.ntmps21
  go_wp2_with (first
    | (have _h := BK; refine box_w rfl 26 _ rfl (yC 12 nn) rfl ?_; intro nb w2 hnb BN k2)
    | (refine box_w rfl 23 _ rfl (yC 32 k) rfl ?_; intro kb w1 hkb BK k1))
  go_ret2
  exact ⟨rfl, k1.trans1 k2⟩
def OrA (z : World) (T : Nat → Nat) (v : Value) (w' : World) : Prop := v = .agg (yC 16 T) ∧ Chg z w' []
def OrC (z : World) (u : Value) (w' : World) : Prop := ∃ g, u = .pointer (some ⟨g, 0, none⟩) ∧ z.heap.size ≤ g ∧ Blk w' g (yC 16 fun _ => 0) 58 ∧ Chg z w' []
def OrAC (z : World) (T : Nat → Nat) (v u : Value) (w' : World) : Prop := v = .agg (yC 16 T) ∧ (∃ g, u = .pointer (some ⟨g, 0, none⟩) ∧ z.heap.size ≤ g ∧ Blk w' g (yC 16 fun _ => 0) 58) ∧ Chg z w' []
/-- What the document's Open answers for 16 bytes and more. -/
def OpR (w : World) (b0 : Nat) (b : Bool) (N : Nat) (F : Nat → Nat) (e : Ending) (w' : World) : Prop := (b = true ∧ AnsO w b0 N F e w') ∨ (b = false ∧ e = .returned (.tuple #[.slice none 0 0, .int .i64 121]) ∧ Chg w w' [])
set_option maxHeartbeats 16000000 in
set_option maxRecDepth 100000 in
theorem Open_r (k nn : Nat → Nat) (hk : ∀ i, i < 32 → k i < 256) (hn : ∀ i, i < 12 → nn i < 256) (v0 : Value) (n0 : Nat) (f0 : Nat → Nat) (v1 : Value) (N : Nat) (f : Nat → Nat) (w : World) (hv0 : Sz w v0 n0 f0) (hv1 : Sz w v1 (N + 16) f) (h0 : n0 ≤ 1099511627776) (hN : N ≤ 274877906880) (b0 : Nat) (hb0 : w.heap.size = b0) :
    Calls Try.prog 21 #[.agg (yC 32 k), .agg (yC 12 nn), v0, v1] w fun e w' => OpR w b0 (tagged k nn n0 f0 N f) N (xo f (ks k 1 nn)) e w' := by
  have HST : Hid (∀ w' b0 vx, Sz w' vx N f → w'.heap.size = b0 → Calls Try.prog 11 #[.agg (yC 32 k), .int .u32 1, .agg (yC 12 nn), vx] w' fun e w'' => AnsO w' b0 N (xo f (ks k 1 nn)) e w'') := fun w' b0 vx h hb => Stream_r k nn 1 hk hn (by unfold V; omega) vx N f w' h (by omega) b0 hb
  have HTG : Hid (∀ w' vx, Sz w' v0 n0 f0 → Sz w' vx N f → Calls Try.prog 60 #[.agg (yC 32 k), .agg (yC 12 nn), v0, vx] w' fun e w'' => e = .returned (.agg (yC 16 (tagT k nn n0 f0 N f))) ∧ Chg w' w'' []) := fun w' vx a b => tag_r k nn hk hn v0 n0 f0 vx N f w' a b h0 (by omega)
  have HEQ : Hid (tagged k nn n0 f0 N f = eqn 16 (fun i => f (N + i)) (tagT k nn n0 f0 N f)) := rfl
  have HTL : Hid (∀ i, tagT k nn n0 f0 N f i < 256) := fun i => tagT_lt _ _ _ _ _ _ i
  obtain ⟨bb, hbb⟩ : ∃ b, tagged k nn n0 f0 N f = b := ⟨_, rfl⟩
  rw [hbb] at HEQ ⊢
  obtain ⟨T, hT⟩ : ∃ T, tagT k nn n0 f0 N f = T := ⟨_, rfl⟩
  rw [hT] at HTG HTL HEQ
  obtain ⟨X, hX⟩ : ∃ X, xo f (ks k 1 nn) = X := ⟨_, rfl⟩
  rw [hX] at HST ⊢
  obtain ⟨p1, c, e1, h1, h2, h3⟩ := hv1
  subst e1
  obtain ⟨g, o, rfl, hb⟩ := h3 (by omega)
  have HB : Hid (Bs w g o (N + 16) f ∧ N + 16 ≤ c ∧ c ≤ 9223372036854775807) := ⟨hb, h1, h2⟩
  have HS1 : Hid (Sz w (.slice (some ⟨g, o, none⟩) N c) N f ∧ Sz w v0 n0 f0) := ⟨⟨_, c, rfl, by omega, h2, fun _ => ⟨g, o, rfl, hb.lt, fun i hi => hb.bd i (by omega), fun i hi => hb.cell i (by omega)⟩⟩, hv0⟩
  have HB0 : Hid (w.heap.size = b0) := hb0
  obtain ⟨n, hnn⟩ : ∃ n, N + 16 = n := ⟨_, rfl⟩
  have HNN : Hid (N + 16 = n ∧ N ≤ 274877906880) := ⟨hnn, hN⟩
  have d1 : IntKind.i64.wrap ((n : Int) - 16) = (N : Int) := by rw [IntKind.wrap_i64]; omega
  have d0 : (n : Int) - 16 = (N : Int) := by omega
  have d3 : IntKind.i64.wrap (N : Int) = (N : Int) := by rw [IntKind.wrap_i64]; omega
  have hI : ¬ (N : Int) < 0 := by omega
  have i1 : (N : Int) ≤ (n : Int) := by omega
  have i2 : (n : Int) ≤ (c : Int) := by omega
  have i3 : (N : Int) ≤ (c : Int) := by omega
  rw [hnn]
  clear hk hn hT hX hbb hv0 h0 h1 h2 h3 hb hb0 hnn hN
  go_enter Try.func21, Try.ntmps21
  go_wp2_with (first
    | (have _h := BK; refine box_w rfl 26 _ rfl (yC 12 nn) rfl ?_; intro nb w2 hnb BN k2)
    | (refine box_w rfl 23 _ rfl (yC 32 k) rfl ?_; intro kb w1 hkb BK k1))
  refine lt_begin (fun w' => Blk w' kb (yC 32 k) 23 ∧ Blk w' nb (yC 12 nn) 26) (fun _ => false) (by kernel_rfl) ?_
  have hHeld := And.intro (BK.chg k2 (by simp)).drew BN.drew
  have K2 : Chg w w2.drew [] := (k1.trans1 k2).drew
  obtain ⟨z, hz⟩ : ∃ z, z = w2.drew := ⟨_, rfl⟩
  rw [← hz] at hHeld K2 ⊢
  clear hz BK BN k1 k2 hkb hnb
  refine lt_read (v := (.agg (yC 32 k))) 0 (some 20) rfl (by kernel_rfl) (by kernel_rfl) (by kernel_rfl) (by kernel_rfl) (fun _ _ _ h => h) rfl rfl (fun w hSw => ?_) hHeld ?_
  · skip; exact (exec_load_b w 23 (.tmp 4) rfl kb rfl hSw.1 Try.underlying23 rfl (by rw [yC_size]; exact keyInfo))
  try simp only [Act.put, List.setIfInBounds_toArray, List.set_cons_zero, List.set_cons_succ]
  refine lt_read (v := (.agg (yC 12 nn))) 1 (some 21) rfl (by kernel_rfl) (by kernel_rfl) (by kernel_rfl) (by kernel_rfl) (fun _ _ _ h => h) rfl rfl (fun w hSw => ?_) hHeld ?_
  · skip; exact (exec_load_b w 26 (.tmp 5) rfl nb rfl hSw.2 Try.underlying26 rfl (by rw [yC_size]; exact nonInfo))
  try simp only [Act.put, List.setIfInBounds_toArray, List.set_cons_zero, List.set_cons_succ]
  refine lt_val (v := ?_) 2 (some 22) rfl (by kernel_rfl) (by kernel_rfl) (by kernel_rfl) (fun _ _ _ h => h) rfl rfl (fun w => ?_) ?_
  rotate_left
  · (go_simp; try with_reducible rfl)
  try simp only [Act.put, List.setIfInBounds_toArray, List.set_cons_zero, List.set_cons_succ]
  refine lt_val (v := ?_) 3 (some 23) rfl (by kernel_rfl) (by kernel_rfl) (by kernel_rfl) (fun _ _ _ h => h) rfl rfl (fun w => ?_) ?_
  rotate_left
  · (go_simp; try with_reducible rfl)
  try simp only [Act.put, List.setIfInBounds_toArray, List.set_cons_zero, List.set_cons_succ]
  refine lt_val (v := ?_) 4 (some 24) rfl (by kernel_rfl) (by kernel_rfl) (by kernel_rfl) (fun _ _ _ h => h) rfl rfl (fun w => ?_) ?_
  rotate_left
  · (go_simp; try with_reducible rfl)
  try simp only [Act.put, List.setIfInBounds_toArray, List.set_cons_zero, List.set_cons_succ]
  refine lt_val (v := (.slice (some ⟨g, o, none⟩) N c)) 5 (some 25) rfl (by kernel_rfl) (by kernel_rfl) (by kernel_rfl) (fun _ _ _ h => h) rfl rfl (fun w => ?_) ?_
  · (go_simp; try with_reducible rfl)
  try simp only [Act.put, List.setIfInBounds_toArray, List.set_cons_zero, List.set_cons_succ]
  refine lt_cc 6 7 rfl rfl (by kernel_rfl) (by kernel_rfl) (by kernel_rfl) rfl rfl (by decide) 26 11 (by decide) (OrA z T) (OrC z) (OrAC z T) (fun K hK => ?_) (fun v w' K hA hK => ?_) (fun K hK => ?_) (fun u w' K hC hK => ?_) (fun _ _ h => ⟨hHeld.1.chg h.2 (by simp), hHeld.2.chg h.2 (by simp)⟩) (fun _ _ h => by obtain ⟨_, _, _, _, h⟩ := h; exact ⟨hHeld.1.chg h (by simp), hHeld.2.chg h (by simp)⟩) (fun _ _ _ h => ⟨hHeld.1.chg h.2.2 (by simp), hHeld.2.chg h.2.2 (by simp)⟩) (fun v u w5 hAC => ?_)
  · go_simp
    refine (HTG.out z (.slice (some ⟨g, o, none⟩) N c) (HS1.out.2.kept K2) (HS1.out.1.kept K2)).mono ?_
    rintro e wA ⟨rfl, kA⟩
    go_wp2_with fail
    exact hK.out _ _ ⟨rfl, kA⟩
  · obtain ⟨rfl, kA⟩ := hA
    refine wp_alloc_w 58 rfl (.agg (yC 16 (fun _ => 0))) zeroTag (yC 16 (fun _ => 0)) rfl ?_
    intro gt wB hg BX kB
    exact hK.out _ _ ⟨rfl, ⟨gt, rfl, Nat.le_trans kA.size hg, BX⟩, kA.trans1 kB⟩
  · refine wp_alloc_w 58 rfl (.agg (yC 16 (fun _ => 0))) zeroTag (yC 16 (fun _ => 0)) rfl ?_
    intro gt wB hg BX kB
    exact hK.out _ _ ⟨gt, rfl, hg, BX, kB⟩
  · obtain ⟨gt, rfl, hg, BX, kB⟩ := hC
    go_simp
    refine (HTG.out w' (.slice (some ⟨g, o, none⟩) N c) (HS1.out.2.kept (K2.trans1 kB)) (HS1.out.1.kept (K2.trans1 kB))).mono ?_
    rintro e wA ⟨rfl, kA⟩
    go_wp2_with fail
    exact hK.out _ _ ⟨rfl, ⟨gt, rfl, hg, BX.chg kA (by simp)⟩, kB.trans1 kA⟩
  obtain ⟨rfl, ⟨tb, rfl, htb, BT⟩, k5⟩ := hAC
  have HTB : Hid ((¬ tb = kb ∧ ¬ tb = nb) ∧ w.heap.size ≤ tb ∧ ¬ tb = g) := ⟨⟨by have := hHeld.1.lt; omega, by have := hHeld.2.lt; omega⟩, by have := K2.size; omega, by have := HB.out.1.lt; have := K2.size; omega⟩
  have BK5 := hHeld.1.chg k5 (by simp)
  have BN5 := hHeld.2.chg k5 (by simp)
  have K5 := K2.trans1 k5
  clear hHeld htb k5 K2
  try simp only [Act.put, List.setIfInBounds_toArray, List.set_cons_zero, List.set_cons_succ]
  refine lt_one 8 rfl (by kernel_rfl) rfl (fun K hK => ?_)
  refine wp_store_w BT 58 (.tmp 11) (.tmp 26) (yC 16 T) rfl rfl rfl (by rw [yC_size]; exact tagInfo) (by rw [yC_size, yC_size]) (yC_one 16 _) ?_
  intro w6 BT6 k6
  change K (Act.put _ none _) _
  refine hK.out _ _ (fun _ h => ⟨h.1.chg k6 (by have := HTB.out; simp; omega), h.2.chg k6 (by have := HTB.out; simp; omega)⟩) ?_
  clear hK K
  try simp only [Act.put, List.setIfInBounds_toArray, List.set_cons_zero, List.set_cons_succ]
  refine lt_done (by kernel_rfl) ?_ _
  have BK6 := BK5.chg k6 (by have := HTB.out; simp; omega)
  have BN6 := BN5.chg k6 (by have := HTB.out; simp; omega)
  have K6 : Chg w w6 [] := K5.new k6 HTB.out.2.1
  clear BK5 BN5 K5 k6 BT
  go_wp2_with fail
  have H0 : Hid (∀ j, j < 0 → f (N + j) = T j) := fun j hj => by omega
  go_loopw [12] (fun t12 wr => ∃ i : Nat, i ≤ 16 ∧ t12 = .int .i64 (i : Int) ∧ Hid (∀ j, j < i → f (N + j) = T j) ∧ Chg w6 wr []) (fun t12 _ => (16 - intOf t12).toNat)
  case atStart => exact ⟨0, by omega, rfl, H0, Chg.refl _ _⟩
  case round =>
    clear H0
    obtain ⟨i, hi, rfl, HE, c0⟩ := hrel
    by_cases h16 : i < 16
    · have hI2 : (i : Int) < 16 := by omega
      have e1 : IntKind.i64.wrap ((i : Int) + 1) = (i : Int) + 1 := by rw [IntKind.wrap_i64]; omega
      obtain ⟨m, hm⟩ : ∃ m, N + i = m := ⟨_, rfl⟩
      have e2 : IntKind.i64.wrap ((N : Int) + (i : Int)) = (m : Int) := by have := HNN.out; rw [IntKind.wrap_i64]; omega
      have e3 : (N : Int) + (i : Int) = (m : Int) := by omega
      have e4 : IntKind.i64.wrap (m : Int) = (m : Int) := by have := HNN.out; rw [IntKind.wrap_i64]; omega
      have i5 : (m : Int) < (n : Int) := by have := HNN.out; omega
      have cS := (HB.out.1.chg (K6.trans1 c0) (by simp)).cell m (by have := HNN.out; omega)
      have cT := ((BT6.chg c0 (by simp)).cell i).trans (yC_get 16 T i h16)
      have HM : Hid (N + i = m ∧ i < 16) := ⟨hm, h16⟩
      by_cases hq : f m = T i
      · have HE2 : Hid (∀ j, j < i + 1 → f (N + j) = T j) := fun j hj => by
          by_cases h : j < i
          · exact HE.out j h
          · obtain rfl : j = i := by omega
            rw [hm]; exact hq
        rw [hq] at cS
        obtain ⟨A, hA⟩ : ∃ A, T i = A := ⟨_, rfl⟩
        rw [hA] at cS cT
        have hb : ((A : Int) != (A : Int)) = false := by simp
        clear hq hA HE hm h16 hi
        go_wp2_with fail
        go_quiet (fail)
        go_wp2_with fail
        exact ⟨⟨i + 1, by have := HM.out; omega, by go_num, HE2, c0.drewN _⟩, by simp [intOf]; have := HM.out; omega⟩
      · have HNO : Hid (bb = false) := by
          show bb = false
          rw [HEQ.out]
          exact eqn_no (fun h => hq (by rw [← hm]; exact h i h16))
        obtain ⟨A, hA⟩ : ∃ A, f m = A := ⟨_, rfl⟩
        obtain ⟨D, hD⟩ : ∃ D, T i = D := ⟨_, rfl⟩
        rw [hA] at cS
        rw [hD] at cT
        have hb : ((A : Int) != (D : Int)) = true := by simp; rw [hA, hD] at hq; omega
        clear hq hA hD HE hm h16 hi
        go_wp2_with fail
        go_quiet (fail)
        go_wp2_with fail
        go_ret2
        exact Or.inr ⟨HNO.out, rfl, (K6.trans1 c0).drewN _⟩
    · obtain rfl : i = 16 := by omega
      have hI2 : ¬ ((16 : Nat) : Int) < 16 := by omega
      have HYES : Hid (bb = true) := by
        show bb = true
        rw [HEQ.out]
        exact (eqn_iff 16 _ _).2 HE.out
      have BK7 := BK6.chg c0 (by simp)
      have BN7 := BN6.chg c0 (by simp)
      have K7 := K6.trans1 c0
      clear h16 hi HE BK6 BN6 BT6 K6 c0
      go_wp2_with fail
      refine lt_begin (fun w' => Blk w' kb (yC 32 k) 23 ∧ Blk w' nb (yC 12 nn) 26) (fun _ => false) (by kernel_rfl) ?_
      have hHeld := And.intro BK7.drew BN7.drew
      replace K7 := K7.drew
      obtain ⟨z8, hz⟩ : ∃ z, z = wr.drew := ⟨_, rfl⟩
      rw [← hz] at hHeld K7 ⊢
      clear hz BK7 BN7
      refine lt_read (v := (.agg (yC 32 k))) 0 (some 42) rfl (by kernel_rfl) (by kernel_rfl) (by kernel_rfl) (by kernel_rfl) (fun _ _ _ h => h) rfl rfl (fun w hSw => ?_) hHeld ?_
      · skip; exact (exec_load_b w 23 (.tmp 4) rfl kb rfl hSw.1 Try.underlying23 rfl (by rw [yC_size]; exact keyInfo))
      try simp only [Act.put, List.setIfInBounds_toArray, List.set_cons_zero, List.set_cons_succ]
      refine lt_read (v := (.agg (yC 12 nn))) 1 (some 43) rfl (by kernel_rfl) (by kernel_rfl) (by kernel_rfl) (by kernel_rfl) (fun _ _ _ h => h) rfl rfl (fun w hSw => ?_) hHeld ?_
      · skip; exact (exec_load_b w 26 (.tmp 5) rfl nb rfl hSw.2 Try.underlying26 rfl (by rw [yC_size]; exact nonInfo))
      try simp only [Act.put, List.setIfInBounds_toArray, List.set_cons_zero, List.set_cons_succ]
      refine lt_val (v := ?_) 2 (some 44) rfl (by kernel_rfl) (by kernel_rfl) (by kernel_rfl) (fun _ _ _ h => h) rfl rfl (fun w => ?_) ?_
      rotate_left
      · (go_simp; try with_reducible rfl)
      try simp only [Act.put, List.setIfInBounds_toArray, List.set_cons_zero, List.set_cons_succ]
      refine lt_val (v := ?_) 3 (some 45) rfl (by kernel_rfl) (by kernel_rfl) (by kernel_rfl) (fun _ _ _ h => h) rfl rfl (fun w => ?_) ?_
      rotate_left
      · (go_simp; try with_reducible rfl)
      try simp only [Act.put, List.setIfInBounds_toArray, List.set_cons_zero, List.set_cons_succ]
      refine lt_val (v := (.slice (some ⟨g, o, none⟩) N c)) 4 (some 46) rfl (by kernel_rfl) (by kernel_rfl) (by kernel_rfl) (fun _ _ _ h => h) rfl rfl (fun w => ?_) ?_
      · (go_simp; try with_reducible rfl)
      try simp only [Act.put, List.setIfInBounds_toArray, List.set_cons_zero, List.set_cons_succ]
      refine lt_one 5 rfl (by kernel_rfl) rfl (fun K hK => ?_)
      go_simp
      refine (HST.out z8 z8.heap.size (.slice (some ⟨g, o, none⟩) N c) (HS1.out.1.kept K7) rfl).mono ?_
      rintro e w9 ⟨v', rfl, O9, k9⟩
      go_wp2_with fail
      refine hK.out _ _ (fun _ h => ⟨h.1.chg k9 (by simp), h.2.chg k9 (by simp)⟩) ?_
      clear hK K
      try simp only [Act.put, List.setIfInBounds_toArray, List.set_cons_zero, List.set_cons_succ]
      refine lt_val (v := ?_) 6 (some 41) rfl (by kernel_rfl) (by kernel_rfl) (by kernel_rfl) (fun _ _ _ h => h) rfl rfl (fun w => ?_) ?_
      rotate_left
      · (go_simp; try with_reducible rfl)
      try simp only [Act.put, List.setIfInBounds_toArray, List.set_cons_zero, List.set_cons_succ]
      refine lt_val (v := ?_) 7 (some 48) rfl (by kernel_rfl) (by kernel_rfl) (by kernel_rfl) (fun _ _ _ h => h) rfl rfl (fun w => ?_) ?_
      rotate_left
      · (go_simp; try with_reducible rfl)
      try simp only [Act.put, List.setIfInBounds_toArray, List.set_cons_zero, List.set_cons_succ]
      refine lt_val (v := ?_) 8 (some 49) rfl (by kernel_rfl) (by kernel_rfl) (by kernel_rfl) (fun _ _ _ h => h) rfl rfl (fun w => ?_) ?_
      rotate_left
      · (go_simp; try with_reducible rfl)
      try simp only [Act.put, List.setIfInBounds_toArray, List.set_cons_zero, List.set_cons_succ]
      refine lt_val (v := ?_) 9 (some 13) rfl (by kernel_rfl) (by kernel_rfl) (by kernel_rfl) (fun _ _ _ h => h) rfl rfl (fun w => ?_) ?_
      rotate_left
      · (go_simp; try with_reducible rfl)
      try simp only [Act.put, List.setIfInBounds_toArray, List.set_cons_zero, List.set_cons_succ]
      refine lt_val (v := ?_) 10 (some 14) rfl (by kernel_rfl) (by kernel_rfl) (by kernel_rfl) (fun _ _ _ h => h) rfl rfl (fun w => ?_) ?_
      rotate_left
      · (go_simp; try with_reducible rfl)
      try simp only [Act.put, List.setIfInBounds_toArray, List.set_cons_zero, List.set_cons_succ]
      refine lt_done (by kernel_rfl) ?_ _
      have K9 := K7.trans1 k9
      have O9' : Own w9 b0 v' N X := O9.base (by have := K7.size; have := HB0.out; omega)
      go_wp2_with fail
      go_ret2
      exact Or.inl ⟨HYES.out, _, rfl, O9', K9⟩
end Go.Proofs.Ytachilkhbfpahaa

/- rimeref12: Numbered, Box, Unbox. -/
namespace Go.Proofs.Ytachilkhbfpahaa
open Go.RowKit

def nbI (n i : Nat) : Nat → Nat := fun j => if 4 ≤ j ∧ j < 4 + i then n / 256 ^ (j - 4) % 256 else 0
theorem nbI_up (n i : Nat) : up (nbI n i) (4 + i) (n / 256 ^ i % 256) = nbI n (i + 1) := by
  funext j
  unfold up nbI
  by_cases h : j = 4 + i
  · subst h; rw [if_pos rfl, if_pos (by omega), Nat.add_sub_cancel_left]
  · rw [if_neg h]
    by_cases h2 : 4 ≤ j ∧ j < 4 + i
    · rw [if_pos h2, if_pos (by omega)]
    · rw [if_neg h2, if_neg (by omega)]
theorem nbI_end (n : Nat) : nbI n 8 = ncB n := by
  funext j
  unfold nbI ncB pl
  rfl
set_option maxHeartbeats 8000000 in
set_option maxRecDepth 100000 in
theorem Numbered_r (n : Nat) (hn : n < 18446744073709551616) (w : World) : Calls Try.prog 64 #[.int .u64 (n : Int)] w fun e w' => e = .returned (.agg (yC 12 (ncB n))) ∧ Chg w w' [] := by
  go_enter Try.func64, Try.ntmps64
  go_wp2_with (first
    | (have _h := BR; with_reducible refine alloc_w rfl 26 rfl (.agg (yC 12 (fun _ => 0))) zeroNc (yC 12 (fun _ => 0)) rfl ?_; intro nb w2 hnb BN k2)
    | (with_reducible refine alloc_w rfl 26 rfl (.agg (yC 12 (fun _ => 0))) zeroNc (yC 12 (fun _ => 0)) rfl ?_; intro rb w1 hrb BR k1))
  have BR2 := BR.chg k2 (by simp)
  have HO : Hid (¬ nb = rb ∧ w.heap.size ≤ nb ∧ w.heap.size ≤ rb) := ⟨by have := BR.lt; omega, by have := k1.size; omega, hrb⟩
  have K2 : Chg w w2 [] := k1.trans1 k2
  clear BR k1 k2 hnb hrb
  replace BN := BN.to (yC_eq (g := nbI n 0) fun j _ => by unfold nbI; rw [if_neg (by omega)])
  go_loopw [4] (fun t4 wr => ∃ i : Nat, i ≤ 8 ∧ t4 = .int .i64 (i : Int) ∧ Blk wr nb (yC 12 (nbI n i)) 26 ∧ Chg w2 wr [nb]) (fun t4 _ => (8 - intOf t4).toNat)
  case atStart => exact ⟨0, by omega, rfl, BN, Chg.refl _ _⟩
  case round =>
    clear BN
    obtain ⟨i, hi, rfl, b0, c0⟩ := hrel
    by_cases h8 : i < 8
    · have hI : (i : Int) < 8 := by omega
      have e1 : IntKind.i64.wrap ((i : Int) + 1) = (i : Int) + 1 := by rw [IntKind.wrap_i64]; omega
      obtain ⟨p, hp⟩ : ∃ p, 4 + i = p := ⟨_, rfl⟩
      have e2 : IntKind.i64.wrap (4 + (i : Int)) = (p : Int) := by rw [IntKind.wrap_i64]; omega
      have e3 : 4 + (i : Int) = (p : Int) := by omega
      have e4 : IntKind.i64.wrap (p : Int) = (p : Int) := by rw [IntKind.wrap_i64]; omega
      have e5 : (p : Int) < 12 := by omega
      have HI : Hid (i < 8) := h8
      obtain ⟨x, hx⟩ : ∃ x, n / 256 ^ i % 256 = x := ⟨_, rfl⟩
      have hw : IntKind.u64.wrap (8 * ((i : Nat) : Int)) = 8 * ((i : Nat) : Int) := by rw [IntKind.wrap_u64]; omega
      have hwi : IntKind.i64.wrap (8 * ((i : Nat) : Int)) = 8 * ((i : Nat) : Int) := by rw [IntKind.wrap_i64]; omega
      have htn : (8 * ((i : Nat) : Int)).toNat = 8 * i := by omega
      have hmi : min (8 * i) 64 = 8 * i := by omega
      have hv : ((n : Nat) : Int) / 2 ^ (8 * i) % 256 = ((x : Nat) : Int) := by
        rw [← hx, show (256 : Nat) = 2 ^ 8 from rfl, ← Nat.pow_mul]
        simp
      have hwu : IntKind.u8.wrap (((n : Nat) : Int) / 2 ^ (8 * i)) = ((x : Nat) : Int) := by rw [IntKind.wrap_u8]; exact hv
      have hup := nbI_up n i
      rw [hx, hp] at hup
      have cx := (b0.cell p).trans (yC_get 12 _ p (by omega))
      have fx := b0.frozen p
      have b1 := (b0.setCell p (.int .u8 ((x : Nat) : Int))).to ((yC_set 12 _ p _).trans (congrArg (yC 12) hup))
      have c1 := c0.setIn (k := nb) (by simp) p (.int .u8 ((x : Nat) : Int))
      clear h8 hi hx hup hp b0 c0
      go_wp2_with fail
      exact ⟨⟨i + 1, by have := HI.out; omega, by go_num, b1, c1⟩, by simp [intOf]; have := HI.out; omega⟩
    · obtain rfl : i = 8 := by omega
      have hI : ¬ ((8 : Nat) : Int) < 8 := by omega
      rw [nbI_end] at b0
      have BR3 := BR2.chg c0 (by have := HO.out; simp; omega)
      have K3 := K2.new c0 HO.out.2.1
      clear h8 hi BR2 K2 c0
      go_wp2_with (first
        | (refine store_w BR3 rfl 26 _ _ (yC 12 (ncB n)) rfl rfl rfl (by rw [yC_size]; exact nonInfo) (by rw [yC_size, yC_size]) (yC_one 12 _) ?_; intro w4 BR4 k4)
        | (with_reducible refine load_b b0 26 (.tmp 3) Try.underlying26 ?_ ?_ ?_ ?_ ?_ ?_
           · rfl
           · rfl
           · rfl
           · rfl
           · (rw [yC_size]; exact nonInfo)))
      exact bodyPost_ret (results_cell_row Try.results64 _ _ rb 26 (yC 12 (ncB n)) (0, 0) _ rfl BR4 Try.underlying26 rfl (by rw [yC_size]; exact nonInfo)) rfl ⟨rfl, K3.new k4 HO.out.2.2⟩
theorem Box_rend (k : Nat → Nat) (v0 v1 : Value) (w : World) : Calls Try.prog 29 #[.agg (yC 32 k), .int .u64 18446744073709551615, v0, v1] w fun e w' => e = .returned (.tuple #[.slice none 0 0, .int .i64 122]) ∧ Chg w w' [] := by
  go_enter Try.func29, Try.ntmps29
  go_wp2_with (refine box_w rfl 23 _ rfl (yC 32 k) rfl ?_; intro kb w1 hkb BK k1)
  go_ret2
  exact ⟨rfl, k1⟩
set_option maxHeartbeats 16000000 in
set_option maxRecDepth 100000 in
theorem Box_r (k : Nat → Nat) (nx : Nat) (hk : ∀ i, i < 32 → k i < 256) (hnx : nx < 18446744073709551615) (v0 : Value) (n0 : Nat) (f0 : Nat → Nat) (v1 : Value) (n1 : Nat) (f1 : Nat → Nat) (w : World) (hv0 : Sz w v0 n0 f0) (hv1 : Sz w v1 n1 f1) (h0 : n0 ≤ 1099511627776) (h1 : n1 ≤ 274877906880) (b0 : Nat) (hb0 : w.heap.size = b0) :
    Calls Try.prog 29 #[.agg (yC 32 k), .int .u64 (nx : Int), v0, v1] w fun e w' => AnsO w b0 (n1 + 28) (boxB k nx n0 f0 n1 f1) e w' := by
  have HS : Hid (∀ w', Sz w' v0 n0 f0 → Sz w' v1 n1 f1 → Calls Try.prog 23 #[.agg (yC 32 k), .agg (yC 12 (ncB nx)), v0, v1] w' fun e w'' => CyQ w' (n1 + 16) (sealB k (ncB nx) n0 f0 n1 f1) e w'') := fun w' a b => Seal_r k (ncB nx) hk (fun i _ => ncB_lt nx i) v0 n0 f0 v1 n1 f1 w' a b h0 h1
  have HB : Hid (boxB k nx n0 f0 n1 f1 = cat (ncB nx) 12 (sealB k (ncB nx) n0 f0 n1 f1)) := rfl
  have HNL : Hid (∀ i, ncB nx i < 256) := fun i => ncB_lt nx i
  have HNB : Hid (∀ w', Calls Try.prog 64 #[.int .u64 (nx : Int)] w' fun e w'' => e = .returned (.agg (yC 12 (ncB nx))) ∧ Chg w' w'' []) := fun w' => Numbered_r nx (by omega) w'
  obtain ⟨Z, hZ⟩ : ∃ Z, sealB k (ncB nx) n0 f0 n1 f1 = Z := ⟨_, rfl⟩
  rw [hZ] at HS HB
  obtain ⟨M, hM⟩ : ∃ M, ncB nx = M := ⟨_, rfl⟩
  rw [hM] at HS HB HNL HNB
  obtain ⟨Y, hY⟩ : ∃ Y, boxB k nx n0 f0 n1 f1 = Y := ⟨_, rfl⟩
  rw [hY] at HB ⊢
  have HV : Hid ((Sz w v0 n0 f0 ∧ Sz w v1 n1 f1) ∧ n1 ≤ 274877906880) := ⟨⟨hv0, hv1⟩, h1⟩
  have HB0 : Hid (w.heap.size = b0) := hb0
  have hq : ((nx : Int) == 18446744073709551615) = false := by simp; omega
  have hq2 : ¬ (nx : Int) = 18446744073709551615 := by omega
  clear hk hZ hM hY hv0 hv1 h0 h1 hb0 hnx
  go_enter Try.func29, Try.ntmps29
  go_wp2_with (refine box_w rfl 23 _ rfl (yC 32 k) rfl ?_; intro kb w1 hkb BK k1)
  refine (HNB.out w1).mono ?_
  rintro e w2 ⟨rfl, k2⟩
  go_wp2_with (first
    | (refine append_zl rfl (.tmp 16) (.tmp 17) rfl b0 (.slice none 0 0) (.slice (some ⟨nb, 0, none⟩) 12 12) 0 12 M M rfl rfl (Own.nil _ _ M) (BN4.szn (fun i _ => HNL.out i) (by decide)) (by decide) (by have := HB0.out; have := k1.size; have := k2.size; have := k3.size; have := k4.size; omega) ?_; intro a1 w5 O5 k5; rw [Nat.zero_add, cat_zero] at O5; replace k5 : Chg w4 w5 [] := k5)
    | (with_reducible refine load_b (BN4.chg k5 (by simp)) 26 (.tmp 10) Try.underlying26 ?_ ?_ ?_ ?_ ?_ ?_
       · rfl
       · rfl
       · rfl
       · rfl
       · (rw [yC_size]; exact nonInfo))
    | (with_reducible refine load_b ((((BK.chg k2 (by simp)).chg k3 (by simp)).chg k4 (by have := (BK.chg k2 (by simp)).lt; simp; omega)).chg k5 (by simp)) 23 (.tmp 4) Try.underlying23 ?_ ?_ ?_ ?_ ?_ ?_
       · rfl
       · rfl
       · rfl
       · rfl
       · (rw [yC_size]; exact keyInfo))
    | (refine store_w BN rfl 26 _ _ (yC 12 M) rfl rfl rfl (by rw [yC_size]; exact nonInfo) (by rw [yC_size, yC_size]) (yC_one 12 _) ?_; intro w4 BN4 k4)
    | (with_reducible refine alloc_w rfl 26 rfl (.agg (yC 12 (fun _ => 0))) zeroNc (yC 12 (fun _ => 0)) rfl ?_; intro nb w3 hnb BN k3))
  have K5 : Chg w w5 [] := (((k1.trans1 k2).trans1 k3).new k4 (by have := (k1.trans1 k2).size; omega)).trans1 k5
  clear BK BN BN4 k1 k2 k3 k4 k5 hkb hnb
  refine (HS.out w5 (HV.out.1.1.kept K5) (HV.out.1.2.kept K5)).mono ?_
  rintro e w6 ⟨v6, rfl, O6, k6⟩
  have O5' := O5.chg k6 (by simp)
  go_wp2_with (refine append_zl rfl (.tmp 19) (.tmp 24) rfl b0 a1 v6 12 (n1 + 16) M Z rfl rfl O5' O6.sz (by have := HV.out; omega) (by have := HB0.out; have := K5.size; have := k6.size; omega) ?_; intro v7 w7 O7 k7)
  go_ret2
  refine ⟨v7, rfl, ?_, Cb.low (K5.trans1 k6) (O5'.cb k7) (by have := HB0.out; omega)⟩
  rw [HB.out, show n1 + 28 = 12 + (n1 + 16) by omega]
  exact O7
end Go.Proofs.Ytachilkhbfpahaa

/- rimeref12: Unbox. -/
namespace Go.Proofs.Ytachilkhbfpahaa
open Go.RowKit

theorem OpR.parts {w : World} {b0 : Nat} {b : Bool} {N : Nat} {F : Nat → Nat} {e : Ending} {w' : World} (h : OpR w b0 b N F e w') : ∃ sv ev, e = .returned (.tuple #[sv, .int .i64 ev]) ∧ Chg w w' [] ∧
    ((b = true ∧ ev = 0 ∧ Own w' b0 sv N F) ∨ (b = false ∧ ev = 121 ∧ sv = .slice none 0 0)) := by
  rcases h with ⟨hb, v', rfl, O, k⟩ | ⟨hb, rfl, k⟩
  · exact ⟨_, _, rfl, k, Or.inl ⟨hb, rfl, O⟩⟩
  · exact ⟨_, _, rfl, k, Or.inr ⟨hb, rfl, rfl⟩⟩
/-- What the document's Unbox answers for 28 bytes and more. -/
def UbR (w : World) (b0 : Nat) (o b : Bool) (N num : Nat) (F : Nat → Nat) (e : Ending) (w' : World) : Prop :=
  (o = false ∧ e = .returned (.tuple #[.slice none 0 0, .int .u64 0, .int .i64 1]) ∧ Chg w w' []) ∨ (o = true ∧ b = false ∧ e = .returned (.tuple #[.slice none 0 0, .int .u64 0, .int .i64 121]) ∧ Chg w w' []) ∨
  (o = true ∧ b = true ∧ ∃ v', e = .returned (.tuple #[v', .int .u64 (num : Int), .int .i64 0]) ∧ Own w' b0 v' N F ∧ Chg w w' [])
theorem copy_yl {P : Program} {w : World} {ops : Array Oper} {rest : List Oper} {o : Oper} {a : Act} {Q : Exit → Act → World → Prop} (hgd : o.guard = none) (d s : Operand) (dT sT : TypeId)
    (ho : o.op = .call { callee := .builtin .copy, args := #[d, s], argTypes := #[dT, sT] }) (elem : TypeId) (hu : P.underlying dT = some (.slice elem)) (hsz : (P.info? elem).map (·.size) = some 1)
    (g at' dLen dCap : Nat) (sp : Option Addr) (sLen sCap : Nat) (hd : a.eval d = .slice (some ⟨g, at', none⟩) dLen dCap) (hs : a.eval s = .slice sp sLen sCap)
    (N : Nat) (t : Nat → Nat) (T : TypeId) (hg : Blk w g (yC N t) T) (n : Nat) (f : Nat → Nat) (hn : n = Nat.min sLen dLen) (h0 : 0 < n)
    (hsrc : ∃ gs os, sp = some ⟨gs, os, none⟩ ∧ ∀ j, j < n → w.cell? ⟨gs, os + j, none⟩ = some (.int .u8 (f j))) (hfit : at' + n ≤ N)
    (h : ∀ w', Blk w' g (yC N (lay t at' n f)) T → Chg w w' [g] → wpList P ops Q rest (a.put o.dst (goInt n)) w') : wpList P ops Q (o :: rest) a w :=
  wpList_plain hgd fun _ hK => copy_yz d s dT sT ho elem hu hsz g at' dLen dCap sp sLen sCap hd hs N t T hg n f hn h0 hsrc hfit fun w' q1 q2 => hK _ _ (h w' q1 q2)
theorem bxO_yes {f : Nat → Nat} (hf : ∀ i, i < 12 → f i < 256) (h : ∀ i, i < 4 → f i = 0) : bxO f = true := by
  unfold bxO
  rw [eqn_iff]
  intro i hi
  unfold ncB pl
  by_cases h4 : 4 ≤ i
  · rw [if_pos (by omega)]
    unfold bxN
    rw [le8_nle]
    obtain ⟨j, rfl⟩ : ∃ j, i = 4 + j := ⟨i - 4, by omega⟩
    rw [Nat.add_sub_cancel_left]
    obtain ⟨r, hr⟩ : ∃ r, 8 = j + (1 + r) := ⟨7 - j, by omega⟩
    rw [hr, nle_cut, nle_cut, Nat.add_mul_div_right _ _ (Nat.pow_pos (by decide)), Nat.div_eq_of_lt (nle_lt j (fun i hi => hf _ (by omega))), Nat.zero_add, Nat.pow_one]
    have q : nle (fun j_1 => f (4 + (j + j_1))) 1 = f (4 + j) := by simp [nle]
    rw [q]
    have := hf (4 + j) hi
    omega
  · rw [if_neg (by omega)]
    exact h i (by omega)
theorem bxO_no {f : Nat → Nat} (i : Nat) (hi : i < 4) (h : ¬ f i = 0) : bxO f = false := by
  unfold bxO
  exact eqn_no (fun q => h (by have := q i (by omega); rw [this]; unfold ncB pl; rw [if_neg (by omega)]))
set_option maxHeartbeats 8000000 in
set_option maxRecDepth 100000 in
theorem Unbox_rshort (k : Nat → Nat) (v0 v1 : Value) (n1 : Nat) (f1 : Nat → Nat) (w : World) (hv1 : Sz w v1 n1 f1) (hs : n1 < 28) :
    Calls Try.prog 25 #[.agg (yC 32 k), v0, v1] w fun e w' => e = .returned (.tuple #[.slice none 0 0, .int .u64 0, .int .i64 3]) ∧ Chg w w' [] := by
  obtain ⟨p1, c1, e1, _⟩ := id hv1
  subst e1
  have hI : (n1 : Int) < 28 := by omega
  clear hv1 hs
  go_enter Try.func25, Try.ntmps25
  go_wp2_with (refine box_w rfl 23 _ rfl (yC 32 k) rfl ?_; intro kb w1 hkb BK k1)
  go_ret3
  exact ⟨rfl, k1⟩
set_option maxHeartbeats 16000000 in
set_option maxRecDepth 100000 in
theorem Unbox_r (k : Nat → Nat) (hk : ∀ i, i < 32 → k i < 256) (v0 : Value) (n0 : Nat) (f0 : Nat → Nat) (v1 : Value) (N : Nat) (f : Nat → Nat) (w : World) (hv0 : Sz w v0 n0 f0) (hv1 : Sz w v1 (N + 28) f) (h0 : n0 ≤ 1099511627776) (hN : N ≤ 274877906880) (b0 : Nat) (hb0 : w.heap.size = b0) :
    Calls Try.prog 25 #[.agg (yC 32 k), v0, v1] w fun e w' => UbR w b0 (bxO f) (tagged k f n0 f0 N (fun i => f (12 + i))) N (bxN f) (xo (fun i => f (12 + i)) (ks k 1 f)) e w' := by
  have hfb := hv1.bd
  have HFB : Hid (∀ i, i < N + 28 → f i < 256) := hfb
  have HOP : Hid (∀ w' b1 vx, Sz w' v0 n0 f0 → Sz w' vx (N + 16) (fun i => f (12 + i)) → w'.heap.size = b1 → Calls Try.prog 21 #[.agg (yC 32 k), .agg (yC 12 f), v0, vx] w' fun e w'' => OpR w' b1 (tagged k f n0 f0 N (fun i => f (12 + i))) N (xo (fun i => f (12 + i)) (ks k 1 f)) e w'') := fun w' b1 vx a b h => Open_r k f hk (fun i hi => hfb i (by omega)) v0 n0 f0 vx N _ w' a b h0 hN b1 h
  have HYES : Hid ((∀ i, i < 4 → f i = 0) → bxO f = true) := fun h => bxO_yes (fun i hi => hfb i (by omega)) h
  have HNO : Hid (∀ i, i < 4 → ¬ f i = 0 → bxO f = false) := fun i hi h => bxO_no i hi h
  have HNM : Hid (bxN f = nle (fun i => f (4 + i)) 8) := by show bxN f = _; unfold bxN; exact le8_nle _
  obtain ⟨tg, htg⟩ : ∃ b, tagged k f n0 f0 N (fun i => f (12 + i)) = b := ⟨_, rfl⟩
  obtain ⟨X, hX⟩ : ∃ X, xo (fun i => f (12 + i)) (ks k 1 f) = X := ⟨_, rfl⟩
  rw [htg, hX] at HOP ⊢
  obtain ⟨ow, how⟩ : ∃ b, bxO f = b := ⟨_, rfl⟩
  rw [how] at HYES HNO ⊢
  obtain ⟨nm, hnm⟩ : ∃ m, bxN f = m := ⟨_, rfl⟩
  rw [hnm] at HNM ⊢
  obtain ⟨p1, c, e1, h1, h2, h3⟩ := hv1
  subst e1
  obtain ⟨g, o, rfl, hb⟩ := h3 (by omega)
  have HB : Hid (Bs w g o (N + 28) f ∧ N + 28 ≤ c ∧ c ≤ 9223372036854775807) := ⟨hb, h1, h2⟩
  have HS1 : Hid (Sz w (.slice (some ⟨g, o + 12, none⟩) (N + 16) (c - 12)) (N + 16) (fun i => f (12 + i)) ∧ Sz w v0 n0 f0) := ⟨⟨_, c - 12, rfl, by omega, by omega, fun _ => ⟨g, o + 12, rfl, hb.sub 12 (N + 16) (by omega)⟩⟩, hv0⟩
  have HB0 : Hid (w.heap.size = b0) := hb0
  obtain ⟨n, hnn⟩ : ∃ n, N + 28 = n := ⟨_, rfl⟩
  have HNN : Hid (N + 28 = n ∧ N ≤ 274877906880) := ⟨hnn, hN⟩
  have hI : ¬ (n : Int) < 28 := by omega
  have q0 : (0 : Int) < (n : Int) := by omega
  have q1 : (1 : Int) < (n : Int) := by omega
  have q2 : (2 : Int) < (n : Int) := by omega
  have q3 : (3 : Int) < (n : Int) := by omega
  have q12 : (12 : Int) ≤ (n : Int) := by omega
  have qc : (n : Int) ≤ (c : Int) := by omega
  have qd : ¬ c = 12 := by omega
  have qe : n - 12 = N + 16 := by omega
  rw [hnn]
  clear hk htg hX how hnm hv0 h0 h1 h2 h3 hb hb0 hnn hN hfb
  go_enter Try.func25, Try.ntmps25
  go_upto_region 3 with (refine box_w rfl 23 _ rfl (yC 32 k) rfl ?_; intro kb w1 hkb BK k1)
  go_cut [38] (fun t38 wc => t38 = .bool (!ow) ∧ Chg w1 wc [])
  case first =>
    have c0 := (HB.out.1.chg k1 (by simp)).cell 0 (by omega)
    have c1 := (HB.out.1.chg k1 (by simp)).cell 1 (by omega)
    have c2 := (HB.out.1.chg k1 (by simp)).cell 2 (by omega)
    have c3 := (HB.out.1.chg k1 (by simp)).cell 3 (by omega)
    rw [Nat.add_zero] at c0
    by_cases a0 : f 0 = 0
    · rw [a0] at c0
      by_cases a1 : f 1 = 0
      · rw [a1] at c1
        by_cases a2 : f 2 = 0
        · rw [a2] at c2
          by_cases a3 : f 3 = 0
          · rw [a3] at c3
            have h := HYES.out (fun i hi => by
              have h4 : i = 0 ∨ i = 1 ∨ i = 2 ∨ i = 3 := by omega
              rcases h4 with rfl | rfl | rfl | rfl <;> assumption)
            clear a0 a1 a2 a3
            subst h
            go_wp2_with fail
            go_meet
            case rel => exact ⟨rfl, Chg.refl _ _⟩
          · have h := HNO.out 3 (by decide) a3
            obtain ⟨x, hx⟩ : ∃ x, f 3 = x := ⟨_, rfl⟩
            rw [hx] at c3 a3
            have e3 : ((x : Int) != 0) = true := by simp; omega
            clear a0 a1 a2 a3 hx
            subst h
            go_wp2_with fail
            go_meet
            case rel => exact ⟨rfl, Chg.refl _ _⟩
        · have h := HNO.out 2 (by decide) a2
          obtain ⟨x, hx⟩ : ∃ x, f 2 = x := ⟨_, rfl⟩
          rw [hx] at c2 a2
          have e3 : ((x : Int) != 0) = true := by simp; omega
          clear a0 a1 a2 hx
          subst h
          go_wp2_with fail
          go_meet
          case rel => exact ⟨rfl, Chg.refl _ _⟩
      · have h := HNO.out 1 (by decide) a1
        obtain ⟨x, hx⟩ : ∃ x, f 1 = x := ⟨_, rfl⟩
        rw [hx] at c1 a1
        have e3 : ((x : Int) != 0) = true := by simp; omega
        clear a0 a1 hx
        subst h
        go_wp2_with fail
        go_meet
        case rel => exact ⟨rfl, Chg.refl _ _⟩
    · have h := HNO.out 0 (by decide) a0
      obtain ⟨x, hx⟩ : ∃ x, f 0 = x := ⟨_, rfl⟩
      rw [hx] at c0 a0
      have e3 : ((x : Int) != 0) = true := by simp; omega
      clear a0 hx
      subst h
      go_wp2_with fail
      go_meet
      case rel => exact ⟨rfl, Chg.refl _ _⟩
  case rest =>
    obtain ⟨rfl, k2⟩ := hcut
    obtain ⟨w2, rfl⟩ : ∃ z, z = wc := ⟨wc, rfl⟩
    have BK2 := BK.chg k2 (by simp)
    have K2 := k1.trans1 k2
    clear BK k1 k2 hkb HYES HNO
    cases ow
    case false =>
      go_wp2_with fail
      go_ret3
      exact Or.inl ⟨rfl, rfl, K2⟩
    case true =>
      go_wp2_with (first
        | (refine copy_yl rfl (.tmp 39) (.tmp 40) 27 27 rfl 5 Try.underlying27 u8Inf nb 0 12 12 (some ⟨g, o, none⟩) n c rfl rfl 12 (fun _ => 0) 26 BN 12 f (by show 12 = min n 12; have := HNN.out; omega) (by decide) ⟨g, o, rfl, fun j hj => ((HB.out.1.chg (K2.trans1 k3) (by simp)).cell j (by have := HNN.out; omega))⟩ (by decide) ?_; intro w4 BN4 k4; rw [lay_all] at BN4)
        | (with_reducible refine alloc_w rfl 26 rfl (.agg (yC 12 (fun _ => 0))) zeroNc (yC 12 (fun _ => 0)) rfl ?_; intro nb w3 hnb BN k3))
      have HO : Hid ((¬ nb = kb) ∧ w.heap.size ≤ nb) := ⟨by have := BK2.lt; omega, by have := K2.size; omega⟩
      have K4 : Chg w w4 [] := (K2.trans1 k3).new k4 HO.out.2
      have BK4 := (BK2.chg k3 (by simp)).chg k4 (by have := HO.out; simp; omega)
      clear BK2 K2 BN k3 k4 hnb
      go_loopw [11, 10] (fun t11 t10 wr => ∃ m : Nat, m ≤ 8 ∧ t11 = .int .i64 ((3 + m : Nat) : Int) ∧ t10 = .int .u64 ((nle (fun j => f (4 + m + j)) (8 - m) : Nat) : Int) ∧ Chg w4 wr []) (fun t11 _ _ => (intOf t11 - 3).toNat)
      case atStart => exact ⟨8, by omega, rfl, rfl, Chg.refl _ _⟩
      case round =>
        obtain ⟨m, hm, rfl, rfl, c0⟩ := hrel
        by_cases hm0 : 0 < m
        · obtain ⟨r, rfl⟩ : ∃ r, m = r + 1 := ⟨m - 1, by omega⟩
          have cS := (HB.out.1.chg (K4.trans1 c0) (by simp)).cell (4 + r) (by omega)
          have hx8 := HFB.out (4 + r) (by omega)
          have hA : nle (fun j => f (4 + (r + 1) + j)) (8 - (r + 1)) < 256 ^ 7 := Nat.lt_of_lt_of_le (nle_lt _ (fun i hi => HFB.out _ (by omega))) (Nat.pow_le_pow_right (by decide) (by omega))
          have hst : nle (fun j => f (4 + r + j)) (8 - r) = f (4 + r) + nle (fun j => f (4 + (r + 1) + j)) (8 - (r + 1)) * 256 := by
            rw [show 8 - r = 1 + (8 - (r + 1)) by omega, nle_cut, Nat.pow_one]
            rw [nle_eq (b := fun j => f (4 + r + (1 + j))) (c := fun j => f (4 + (r + 1) + j)) (8 - (r + 1)) (fun j _ => by rw [show 4 + r + (1 + j) = 4 + (r + 1) + j by omega])]
            simp [nle]
          obtain ⟨A, hAe⟩ : ∃ A, nle (fun j => f (4 + (r + 1) + j)) (8 - (r + 1)) = A := ⟨_, rfl⟩
          rw [hAe] at hA hst ⊢
          obtain ⟨x, hx⟩ : ∃ x, f (4 + r) = x := ⟨_, rfl⟩
          rw [hx] at hst cS hx8
          obtain ⟨I, hI⟩ : ∃ I, 3 + (r + 1) = I := ⟨_, rfl⟩
          rw [show 4 + r = I by omega] at cS
          obtain ⟨B, hB⟩ : ∃ B, A * 256 = B := ⟨_, rfl⟩
          obtain ⟨C, hC⟩ : ∃ C, x + B = C := ⟨_, rfl⟩
          rw [hB, hC] at hst
          simp only [Nat.reducePow] at hA
          have s1 : IntKind.u64.wrap ((A : Int) * 256) = (B : Int) := by rw [IntKind.wrap_u64]; omega
          have s2 : (A : Int) * 256 = (B : Int) := by omega
          have s3 : (B : Int) % 18446744073709551616 = (B : Int) := by omega
          have s5 : IntKind.u64.wrap (B : Int) = (B : Int) := by rw [IntKind.wrap_u64]; omega
          have s4 : bits .or .u64 (B : Int) (x : Int) = (C : Int) := by
            rw [u64_or_nat B x (by omega) (by omega), nat_join 8 B x (by omega) (by simpa using hx8), ← hC, Nat.add_comm]
          have HST : Hid (nle (fun j => f (4 + r + j)) (8 - r) = C) := hst
          have HI : Hid (3 + (r + 1) = I ∧ r + 1 ≤ 8) := ⟨hI, hm⟩
          have j1 : (4 : Int) ≤ (I : Int) := by omega
          have j2 : (I : Int) < (n : Int) := by have := HNN.out; omega
          have j3 : IntKind.i64.wrap ((I : Int) - 1) = (I : Int) - 1 := by rw [IntKind.wrap_i64]; omega
          have j4 : (0 : Int) ≤ (I : Int) := by omega
          rw [hI]
          clear hst hAe hx hI hB hC hm hm0 hA
          go_wp2_with fail
          exact ⟨⟨r, by have := HI.out; omega, congrArg (Value.int .i64) (by have := HI.out; omega), by rw [HST.out], c0⟩, by simp [intOf]; have := HI.out; omega⟩
        · obtain rfl : m = 0 := by omega
          have HA : Hid (nle (fun j => f (4 + 0 + j)) (8 - 0) = nm) := by show nle (fun j => f (4 + 0 + j)) (8 - 0) = nm; rw [HNM.out]
          rw [HA.out]
          have BK5 := BK4.chg c0 (by simp)
          have BN5 := BN4.chg c0 (by simp)
          have K5 := K4.trans1 c0
          have j1 : ¬ (4 : Int) ≤ ((3 + 0 : Nat) : Int) := by omega
          clear hm hm0 BK4 BN4 K4 c0
          go_wp2_with fail
          refine lt_begin (fun w' => Blk w' kb (yC 32 k) 23 ∧ Blk w' nb (yC 12 f) 26) (fun _ => false) (by kernel_rfl) ?_
          have hHeld := And.intro BK5.drew BN5.drew
          replace K5 := K5.drew
          obtain ⟨z6, hz⟩ : ∃ z, z = wr.drew := ⟨_, rfl⟩
          rw [← hz] at hHeld K5 ⊢
          clear hz BK5 BN5
          refine lt_read (v := (.agg (yC 32 k))) 0 (some 55) rfl (by kernel_rfl) (by kernel_rfl) (by kernel_rfl) (by kernel_rfl) (fun _ _ _ h => h) rfl rfl (fun w hSw => ?_) hHeld ?_
          · skip; exact (exec_load_b w 23 (.tmp 3) rfl kb rfl hSw.1 Try.underlying23 rfl (by rw [yC_size]; exact keyInfo))
          try simp only [Act.put, List.setIfInBounds_toArray, List.set_cons_zero, List.set_cons_succ]
          refine lt_read (v := (.agg (yC 12 f))) 1 (some 56) rfl (by kernel_rfl) (by kernel_rfl) (by kernel_rfl) (by kernel_rfl) (fun _ _ _ h => h) rfl rfl (fun w hSw => ?_) hHeld ?_
          · skip; exact (exec_load_b w 26 (.tmp 9) rfl nb rfl hSw.2 Try.underlying26 rfl (by rw [yC_size]; exact nonInfo))
          try simp only [Act.put, List.setIfInBounds_toArray, List.set_cons_zero, List.set_cons_succ]
          refine lt_val (v := ?_) 2 (some 57) rfl (by kernel_rfl) (by kernel_rfl) (by kernel_rfl) (fun _ _ _ h => h) rfl rfl (fun w => ?_) ?_
          rotate_left
          · (go_simp; try with_reducible rfl)
          try simp only [Act.put, List.setIfInBounds_toArray, List.set_cons_zero, List.set_cons_succ]
          refine lt_val (v := ?_) 3 (some 58) rfl (by kernel_rfl) (by kernel_rfl) (by kernel_rfl) (fun _ _ _ h => h) rfl rfl (fun w => ?_) ?_
          rotate_left
          · (go_simp; try with_reducible rfl)
          try simp only [Act.put, List.setIfInBounds_toArray, List.set_cons_zero, List.set_cons_succ]
          refine lt_val (v := (.slice (some ⟨g, o + 12, none⟩) (N + 16) (c - 12))) 4 (some 59) rfl (by kernel_rfl) (by kernel_rfl) (by kernel_rfl) (fun _ _ _ h => h) rfl rfl (fun w => ?_) ?_
          · (go_simp; try with_reducible rfl)
          try simp only [Act.put, List.setIfInBounds_toArray, List.set_cons_zero, List.set_cons_succ]
          refine lt_one 5 rfl (by kernel_rfl) rfl (fun K hK => ?_)
          go_simp
          refine (HOP.out z6 z6.heap.size (.slice (some ⟨g, o + 12, none⟩) (N + 16) (c - 12)) (HS1.out.2.kept K5) (HS1.out.1.kept K5) rfl).mono ?_
          intro e w7 hOR
          obtain ⟨sv, ev, rfl, k7, hor⟩ := hOR.parts
          go_wp2_with fail
          refine hK.out _ _ (fun _ h => ⟨h.1.chg k7 (by simp), h.2.chg k7 (by simp)⟩) ?_
          clear hK K
          try simp only [Act.put, List.setIfInBounds_toArray, List.set_cons_zero, List.set_cons_succ]
          refine lt_val (v := ?_) 6 (some 54) rfl (by kernel_rfl) (by kernel_rfl) (by kernel_rfl) (fun _ _ _ h => h) rfl rfl (fun w => ?_) ?_
          rotate_left
          · (go_simp; try with_reducible rfl)
          try simp only [Act.put, List.setIfInBounds_toArray, List.set_cons_zero, List.set_cons_succ]
          refine lt_val (v := ?_) 7 (some 61) rfl (by kernel_rfl) (by kernel_rfl) (by kernel_rfl) (fun _ _ _ h => h) rfl rfl (fun w => ?_) ?_
          rotate_left
          · (go_simp; try with_reducible rfl)
          try simp only [Act.put, List.setIfInBounds_toArray, List.set_cons_zero, List.set_cons_succ]
          refine lt_val (v := ?_) 8 (some 62) rfl (by kernel_rfl) (by kernel_rfl) (by kernel_rfl) (fun _ _ _ h => h) rfl rfl (fun w => ?_) ?_
          rotate_left
          · (go_simp; try with_reducible rfl)
          try simp only [Act.put, List.setIfInBounds_toArray, List.set_cons_zero, List.set_cons_succ]
          refine lt_val (v := ?_) 9 (some 12) rfl (by kernel_rfl) (by kernel_rfl) (by kernel_rfl) (fun _ _ _ h => h) rfl rfl (fun w => ?_) ?_
          rotate_left
          · (go_simp; try with_reducible rfl)
          try simp only [Act.put, List.setIfInBounds_toArray, List.set_cons_zero, List.set_cons_succ]
          refine lt_val (v := ?_) 10 (some 13) rfl (by kernel_rfl) (by kernel_rfl) (by kernel_rfl) (fun _ _ _ h => h) rfl rfl (fun w => ?_) ?_
          rotate_left
          · (go_simp; try with_reducible rfl)
          try simp only [Act.put, List.setIfInBounds_toArray, List.set_cons_zero, List.set_cons_succ]
          refine lt_done (by kernel_rfl) ?_ _
          have K7 := K5.trans1 k7
          have HB7 : Hid (b0 ≤ z6.heap.size) := by have := K5.size; have := HB0.out; show b0 ≤ z6.heap.size; omega
          clear hHeld K5 k7 hOR
          rcases hor with ⟨rfl, rfl, O7⟩ | ⟨rfl, rfl, rfl⟩
          · go_wp2_with fail
            go_ret3
            exact Or.inr (Or.inr ⟨rfl, rfl, sv, rfl, O7.base HB7.out, K7⟩)
          · go_wp2_with fail
            go_ret3
            exact Or.inr (Or.inl ⟨rfl, rfl, rfl, K7⟩)
end Go.Proofs.Ytachilkhbfpahaa

/- Open, Unbox: what both sides answer, in one form. -/
namespace Go.Proofs.Ytachilkhbfpahaa
open Go.RowKit

theorem GQ.sz {wr w1 : World} {gb o n c : Nat} {f : Nat → Nat} {C : Array Value} (h : GQ wr w1 gb) (hz : Blk wr o C 5) (hb : Sz wr (.slice (some ⟨o, 0, none⟩) n c) n f) : Sz w1 (.slice (some ⟨o, 0, none⟩) n c) n f := by
  obtain ⟨l, k, _, fr⟩ := h
  refine hb.chg k (fun g' o' n' c' _ e hm => ?_)
  simp only [Value.slice.injEq, Option.some.injEq, Addr.mk.injEq] at e
  obtain ⟨⟨rfl, _⟩, _⟩ := e
  exact fr _ C _ hz (by decide) (by decide) hm
def opN (k nn : Nat → Nat) (n0 : Nat) (f0 : Nat → Nat) (n1 : Nat) (f1 : Nat → Nat) : Nat := if n1 < 16 then 0 else if tagged k nn n0 f0 (n1 - 16) f1 = true then n1 - 16 else 0
def opE (k nn : Nat → Nat) (n0 : Nat) (f0 : Nat → Nat) (n1 : Nat) (f1 : Nat → Nat) : Int := if n1 < 16 then 3 else if tagged k nn n0 f0 (n1 - 16) f1 = true then 0 else 121
theorem Open_a (k nn : Nat → Nat) (hk : ∀ i, i < 32 → k i < 256) (hn : ∀ i, i < 12 → nn i < 256) (v0 : Value) (n0 : Nat) (f0 : Nat → Nat) (v1 : Value) (n1 : Nat) (f1 : Nat → Nat) (w : World) (hv0 : Sz w v0 n0 f0) (hv1 : Sz w v1 n1 f1) (h1 : n1 ≤ 274877906880) :
    Calls Try.prog 20 #[.agg (yC 32 k), .agg (yC 12 nn), v0, v1] w fun e w' => StA w (opN k nn n0 f0 n1 f1) (opE k nn n0 f0 n1 f1) (xo f1 (ks k 1 nn)) e w' := by
  unfold opN opE
  by_cases h : n1 < 16
  · rw [if_pos h, if_pos h]
    refine (Open_short k nn v0 v1 n1 f1 w hv1 h).mono ?_
    rintro e w' ⟨rfl, k1⟩
    exact ⟨_, rfl, Sz.nil0 _ _, k1⟩
  · rw [if_neg h, if_neg h]
    obtain ⟨N, rfl⟩ : ∃ N, n1 = N + 16 := ⟨n1 - 16, by omega⟩
    rw [Nat.add_sub_cancel]
    have hb := hv1.bd
    refine (Open_s k nn hk hn v0 n0 f0 v1 N f1 w hv0 hv1 (by omega)).mono ?_
    rintro e w' (⟨ht, g, rfl, hg, B, k1⟩ | ⟨ht, rfl, k1⟩)
    · rw [if_pos ht, if_pos ht]
      exact ⟨_, rfl, B.szn (xo_lt (fun i hi => hb i (by omega)) (ks_lt k 1 nn)) (by omega), k1⟩
    · rw [if_neg (by rw [ht]; decide), if_neg (by rw [ht]; decide)]
      exact ⟨_, rfl, Sz.nil0 _ _, k1⟩
theorem Open_ra (k nn : Nat → Nat) (hk : ∀ i, i < 32 → k i < 256) (hn : ∀ i, i < 12 → nn i < 256) (v0 : Value) (n0 : Nat) (f0 : Nat → Nat) (v1 : Value) (n1 : Nat) (f1 : Nat → Nat) (w : World) (hv0 : Sz w v0 n0 f0) (hv1 : Sz w v1 n1 f1) (h0 : n0 ≤ 1099511627776) (h1 : n1 ≤ 274877906880) :
    Calls Try.prog 21 #[.agg (yC 32 k), .agg (yC 12 nn), v0, v1] w fun e w' => StA w (opN k nn n0 f0 n1 f1) (opE k nn n0 f0 n1 f1) (xo f1 (ks k 1 nn)) e w' := by
  unfold opN opE
  by_cases h : n1 < 16
  · rw [if_pos h, if_pos h]
    refine (Open_rshort k nn v0 v1 n1 f1 w hv1 h).mono ?_
    rintro e w' ⟨rfl, k1⟩
    exact ⟨_, rfl, Sz.nil0 _ _, k1⟩
  · rw [if_neg h, if_neg h]
    obtain ⟨N, rfl⟩ : ∃ N, n1 = N + 16 := ⟨n1 - 16, by omega⟩
    rw [Nat.add_sub_cancel]
    refine (Open_r k nn hk hn v0 n0 f0 v1 N f1 w hv0 hv1 h0 (by omega) _ rfl).mono ?_
    rintro e w' (⟨ht, v', rfl, O, k1⟩ | ⟨ht, rfl, k1⟩)
    · rw [if_pos ht, if_pos ht]
      exact ⟨_, rfl, O.sz, k1⟩
    · rw [if_neg (by rw [ht]; decide), if_neg (by rw [ht]; decide)]
      exact ⟨_, rfl, Sz.nil0 _ _, k1⟩
/-- Unbox's answers, of both sides: which of the four, by a number. -/
def ubC (k : Nat → Nat) (n0 : Nat) (f0 : Nat → Nat) (n1 : Nat) (f : Nat → Nat) : Nat := if n1 < 28 then 0 else if bxO f = true then (if tagged k f n0 f0 (n1 - 28) (fun i => f (12 + i)) = true then 3 else 2) else 1
def ubN (c n1 : Nat) : Nat := if c = 3 then n1 - 28 else 0
def ubM (c m : Nat) : Nat := if c = 3 then m else 0
def ubE (c : Nat) : Int := if c = 0 then 3 else if c = 1 then 1 else if c = 2 then 121 else 0
def UbA (w : World) (N M : Nat) (E : Int) (X : Nat → Nat) (e : Ending) (w' : World) : Prop := ∃ sv, e = .returned (.tuple #[sv, .int .u64 (M : Int), .int .i64 E]) ∧ Sz w' sv N X ∧ Chg w w' []
theorem Unbox_a (k : Nat → Nat) (hk : ∀ i, i < 32 → k i < 256) (v0 : Value) (n0 : Nat) (f0 : Nat → Nat) (v1 : Value) (n1 : Nat) (f : Nat → Nat) (w : World) (hv0 : Sz w v0 n0 f0) (hv1 : Sz w v1 n1 f) (h1 : n1 ≤ 274877906880) :
    Calls Try.prog 24 #[.agg (yC 32 k), v0, v1] w fun e w' => UbA w (ubN (ubC k n0 f0 n1 f) n1) (ubM (ubC k n0 f0 n1 f) (bxN f)) (ubE (ubC k n0 f0 n1 f)) (xo (fun i => f (12 + i)) (ks k 1 f)) e w' := by
  unfold ubC
  by_cases h : n1 < 28
  · rw [if_pos h]
    refine (Unbox_short k v0 v1 n1 f w hv1 h).mono ?_
    rintro e w' ⟨rfl, k1⟩
    exact ⟨_, rfl, Sz.nil0 _ _, k1⟩
  · rw [if_neg h]
    obtain ⟨N, rfl⟩ : ∃ N, n1 = N + 28 := ⟨n1 - 28, by omega⟩
    rw [Nat.add_sub_cancel]
    have hb := hv1.bd
    refine (Unbox_s k hk v0 n0 f0 v1 N f w hv0 hv1 (by omega)).mono ?_
    rintro e w' (⟨ho, rfl, k1⟩ | ⟨ho, ht, rfl, k1⟩ | ⟨ho, ht, g, rfl, hg, B, k1⟩)
    · rw [if_neg (by rw [ho]; decide)]
      exact ⟨_, rfl, Sz.nil0 _ _, k1⟩
    · rw [if_pos ho, if_neg (by rw [ht]; decide)]
      exact ⟨_, rfl, Sz.nil0 _ _, k1⟩
    · rw [if_pos ho, if_pos ht]
      refine ⟨_, rfl, ?_, k1⟩
      show Sz w' _ (N + 28 - 28) _
      rw [Nat.add_sub_cancel]
      exact B.szn (xo_lt (fun i hi => hb _ (by omega)) (ks_lt k 1 f)) (by omega)
theorem Unbox_ra (k : Nat → Nat) (hk : ∀ i, i < 32 → k i < 256) (v0 : Value) (n0 : Nat) (f0 : Nat → Nat) (v1 : Value) (n1 : Nat) (f : Nat → Nat) (w : World) (hv0 : Sz w v0 n0 f0) (hv1 : Sz w v1 n1 f) (h0 : n0 ≤ 1099511627776) (h1 : n1 ≤ 274877906880) :
    Calls Try.prog 25 #[.agg (yC 32 k), v0, v1] w fun e w' => UbA w (ubN (ubC k n0 f0 n1 f) n1) (ubM (ubC k n0 f0 n1 f) (bxN f)) (ubE (ubC k n0 f0 n1 f)) (xo (fun i => f (12 + i)) (ks k 1 f)) e w' := by
  unfold ubC
  by_cases h : n1 < 28
  · rw [if_pos h]
    refine (Unbox_rshort k v0 v1 n1 f w hv1 h).mono ?_
    rintro e w' ⟨rfl, k1⟩
    exact ⟨_, rfl, Sz.nil0 _ _, k1⟩
  · rw [if_neg h]
    obtain ⟨N, rfl⟩ : ∃ N, n1 = N + 28 := ⟨n1 - 28, by omega⟩
    rw [Nat.add_sub_cancel]
    refine (Unbox_r k hk v0 n0 f0 v1 N f w hv0 hv1 h0 (by omega) _ rfl).mono ?_
    rintro e w' (⟨ho, rfl, k1⟩ | ⟨ho, ht, rfl, k1⟩ | ⟨ho, ht, v', rfl, O, k1⟩)
    · rw [if_neg (by rw [ho]; decide)]
      exact ⟨_, rfl, Sz.nil0 _ _, k1⟩
    · rw [if_pos ho, if_neg (by rw [ht]; decide)]
      exact ⟨_, rfl, Sz.nil0 _ _, k1⟩
    · rw [if_pos ho, if_pos ht]
      refine ⟨_, rfl, ?_, k1⟩
      show Sz w' _ (N + 28 - 28) _
      rw [Nat.add_sub_cancel]
      exact O.sz
theorem Seal_a (k nn : Nat → Nat) (hk : ∀ i, i < 32 → k i < 256) (hn : ∀ i, i < 12 → nn i < 256) (v0 : Value) (n0 : Nat) (f0 : Nat → Nat) (v1 : Value) (n1 : Nat) (f1 : Nat → Nat) (w : World) (hv0 : Sz w v0 n0 f0) (hv1 : Sz w v1 n1 f1) (h1 : n1 ≤ 274877906880) :
    Calls Try.prog 22 #[.agg (yC 32 k), .agg (yC 12 nn), v0, v1] w fun e w' => ∃ sv, e = .returned sv ∧ Sz w' sv (n1 + 16) (sealB k nn n0 f0 n1 f1) ∧ Chg w w' [] := by
  have hb := hv1.bd
  refine (Seal_s k nn hk hn v0 n0 f0 v1 n1 f1 w hv0 hv1 (by omega)).mono ?_
  rintro e w' ⟨g, rfl, hg, B, k1⟩
  exact ⟨_, rfl, B.szn (fun i hi => seal_lt hb i hi) (by omega), k1⟩
theorem Seal_ra (k nn : Nat → Nat) (hk : ∀ i, i < 32 → k i < 256) (hn : ∀ i, i < 12 → nn i < 256) (v0 : Value) (n0 : Nat) (f0 : Nat → Nat) (v1 : Value) (n1 : Nat) (f1 : Nat → Nat) (w : World) (hv0 : Sz w v0 n0 f0) (hv1 : Sz w v1 n1 f1) (h0 : n0 ≤ 1099511627776) (h1 : n1 ≤ 274877906880) :
    Calls Try.prog 23 #[.agg (yC 32 k), .agg (yC 12 nn), v0, v1] w fun e w' => ∃ sv, e = .returned sv ∧ Sz w' sv (n1 + 16) (sealB k nn n0 f0 n1 f1) ∧ Chg w w' [] := by
  refine (Seal_r k nn hk hn v0 n0 f0 v1 n1 f1 w hv0 hv1 h0 h1).mono ?_
  rintro e w' ⟨v', rfl, O, k1⟩
  exact ⟨_, rfl, O.sz, k1⟩
end Go.Proofs.Ytachilkhbfpahaa
