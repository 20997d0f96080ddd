/- SealPoly: the walk. -/
import Derived.Test.YtpdbdaleheeldaaSePoA
import Derived.Test.YtpdbdaleheeldaaSeK
import Derived.Test.YtpdbdaleheeldaaSeTk
import Derived.Deep.DeepCutAuto
set_option linter.unusedVariables false
set_option linter.unusedSimpArgs false
set_option linter.unnecessarySimpa false
namespace Go.Proofs.Ytpdbdaleheeldaa
open Go.RowKit

/-- The key with s cleared as far as i. -/
def baI (k : Nat → Nat) (i : Nat) : Nat → Nat := fun j => if 16 ≤ j ∧ j < i then 0 else k j
def z32c : Array Value := #[.int .u8 0, .int .u8 0, .int .u8 0, .int .u8 0, .int .u8 0, .int .u8 0, .int .u8 0, .int .u8 0, .int .u8 0, .int .u8 0, .int .u8 0, .int .u8 0, .int .u8 0, .int .u8 0, .int .u8 0, .int .u8 0, .int .u8 0, .int .u8 0, .int .u8 0, .int .u8 0, .int .u8 0, .int .u8 0, .int .u8 0, .int .u8 0, .int .u8 0, .int .u8 0, .int .u8 0, .int .u8 0, .int .u8 0, .int .u8 0, .int .u8 0, .int .u8 0]
theorem z32c_is : z32c = yC 32 z0 := by kernel_rfl
theorem builtK0 : Try.prog.built 23 [] = some (yC 32 z0) := by kernel_rfl
theorem baI_up (k : Nat → Nat) (i : Nat) (hi : 16 ≤ i) : up (baI k i) i 0 = baI k (i + 1) := by
  funext j
  unfold up baI
  by_cases hj : j = i
  · subst hj; rw [if_pos rfl, if_pos (by omega)]
  · rw [if_neg hj]
    by_cases h : 16 ≤ j ∧ j < i
    · rw [if_pos h, if_pos (by omega)]
    · rw [if_neg h, if_neg (by omega)]
section
variable {P : Program} {ops : Array Oper} {Q : Exit → Act → World → Prop} {md : Region.Mode} {S : World → Prop} {B : Nat → Bool}
/-- Two operations of a region that draws its order, in whatever order; what each leaves, said by the caller. -/
theorem lt_cb {oi oj : Oper} {fuel : Nat} {listed : Array Bool} {a : Act} {w : World} (i j : Nat) (hi : ops[i]? = some oi) (hj : ops[j]? = some oj) (hr : Region.ready md ops listed = [i, j]) (hri : Region.ready md ops (listed.setIfInBounds i true) = [j]) (hrj : Region.ready md ops (listed.setIfInBounds j true) = [i])
    (hgi : oi.guard = none) (hgj : oj.guard = none) (hne : i ≠ j) (di dj : Tmp) (hd : di ≠ dj)
    (A C : Value → World → Prop) (AC : Value → Value → World → Prop)
    (h1 : ∀ K, Hid (∀ v w', A v w' → K (a.put (some di) v) w') → Oper.wp P oi a w K Q)
    (h2 : ∀ v w K, A v w → Hid (∀ u w', AC v u w' → K ((a.put (some di) v).put (some dj) u) w') → Oper.wp P oj (a.put (some di) v) w K Q)
    (h3 : ∀ K, Hid (∀ u w', C u w' → K (a.put (some dj) u) w') → Oper.wp P oj a w K Q)
    (h4 : ∀ u w K, C u w → Hid (∀ v w', AC v u w' → K ((a.put (some dj) u).put (some di) v) w') → Oper.wp P oi (a.put (some dj) u) w K Q)
    (hS1 : ∀ v w, A v w → S w) (hS2 : ∀ u w, C u w → S w) (hS3 : ∀ v u w, AC v u w → S w)
    (h : ∀ v u w', AC v u w' → wpAnyL P md ops Q S B fuel ((listed.setIfInBounds i true).setIfInBounds j true) ((a.put (some di) v).put (some dj) u) w') :
    wpAnyL P md ops Q S B (fuel + 1 + 1) listed a w := by
  refine ⟨fun h0 => absurd (hr ▸ h0) (by simp), fun x hx => ?_⟩
  rw [hr] at hx
  have hx' : x = i ∨ x = j := by simpa using hx
  rcases hx' with hx' | hx'
  · subst hx'
    refine wpOp_step hi (fun K hK => ?_)
    rw [if_pos (wanted_none hgi _)]
    refine h1 K fun v w1 q1 => hK _ _ ⟨fun _ _ => hS1 _ _ q1, fun h0 => absurd (hri ▸ h0) (by simp), fun y hy => ?_⟩
    rw [hri] at hy
    obtain rfl : y = j := by simpa using hy
    refine wpOp_step hj (fun K2 hK2 => ?_)
    rw [if_pos (wanted_none hgj _)]
    exact h2 v w1 K2 q1 fun u w2 q2 => hK2 _ _ ⟨fun _ _ => hS3 _ _ _ q2, h v u w2 q2⟩
  · subst hx'
    refine wpOp_step hj (fun K hK => ?_)
    rw [if_pos (wanted_none hgj _)]
    refine h3 K fun u w1 q1 => hK _ _ ⟨fun _ _ => hS2 _ _ q1, fun h0 => absurd (hrj ▸ h0) (by simp), fun y hy => ?_⟩
    rw [hrj] at hy
    obtain rfl : y = i := by simpa using hy
    refine wpOp_step hi (fun K2 hK2 => ?_)
    rw [if_pos (wanted_none hgi _)]
    refine h4 u w1 K2 q1 fun v w2 q2 => hK2 _ _ ⟨fun _ _ => hS3 _ _ _ q2, ?_⟩
    rw [put_comm _ _ _ hd, Array.setIfInBounds_comm _ _ (Ne.symm hne)]
    exact h v u w2 q2
end
theorem bsl_o {w : World} {o : Oper} {a : Act} {K : Act → World → Prop} {Q : Exit → Act → World → Prop} (x : Operand) (ho : o.op = .buildSlice 26 1 #[(0, x)]) (c : Nat) (hx : a.eval x = .int .u8 (c : Int))
    (h : ∀ g w', w.heap.size ≤ g → Blk w' g (yC 1 (fun _ => c)) 5 → Chg w w' [] → K (a.put o.dst (.slice (some ⟨g, 0, none⟩) 1 1)) w') : o.wp Try.prog a w K Q := by
  obtain ⟨i, hi, hz, h1, h2⟩ := u8Row
  refine wp_buildSlice 26 5 1 _ ho (yC 1 (fun _ => c)) i (.int .u8 0) Try.underlying26 hi hz (by rw [h1]; decide) (by rw [h1]; decide) (by rw [h1]; simp [hx]; kernel_rfl) (h _ _ (Nat.le_refl _) (Blk.new w _ _) ((Chg.refl w []).alloc _))
def PoA (z : World) (m : Nat) (f : Nat → Nat) (v : Value) (w' : World) : Prop := Own w' z.heap.size v m f ∧ Chg z w' []
def PoC (z : World) (u : Value) (w' : World) : Prop := ∃ g, u = .slice (some ⟨g, 0, none⟩) 1 1 ∧ Blk w' g (yC 1 (fun _ => 1)) 5 ∧ Chg z w' []
def PoAC (z : World) (m : Nat) (f : Nat → Nat) (v u : Value) (w' : World) : Prop := Own w' z.heap.size v m f ∧ (∃ g, u = .slice (some ⟨g, 0, none⟩) 1 1 ∧ Blk w' g (yC 1 (fun _ => 1)) 5) ∧ Chg z w' []
/-- A piece of at most 15 bytes, 1 behind it, then 0. -/
def pcB (m : Nat) (f : Nat → Nat) : Nat → Nat := cat (cat f m fun _ => 1) (m + 1) fun _ => 0
theorem pcB_nle (m : Nat) (f : Nat → Nat) (hm : m ≤ 15) : nle (pcB m f) 16 = nle f m + 256 ^ m := by
  obtain ⟨r, hr⟩ : ∃ r, 16 = (m + 1) + r := ⟨15 - m, by omega⟩
  rw [hr, nle_ext (pcB m f) (m + 1) r (fun j h1 h2 => by unfold pcB cat; rw [if_neg (by omega)])]
  unfold pcB
  rw [nle_eq (c := cat f m fun _ => 1) (m + 1) (fun i hi => by rw [cat, if_pos hi]), nle_cat]
  simp [nle]
set_option maxHeartbeats 16000000 in
set_option maxRecDepth 100000 in
theorem poly_walk (k : Nat → Nat) (hk : ∀ i, i < 32 → k i < 256) (v : Value) (n : Nat) (f : Nat → Nat) (w : World) (hv : Sz w v n f) :
    Calls Try.prog 6 #[.agg (yC 32 k), v] w fun e w' => e = .returned (.bool true) ∧ Chg w w' [] := by
  have HK : Hid (∀ i, i < 32 → k i < 256) := hk
  have HV : Hid (Sz w v n f) := hv
  have HB : Hid (∀ i, i < 32 → baI k 32 i < 256) := fun i hi => by
    unfold baI; split
    · decide
    · exact hk i hi
  have HMA : Hid (∀ i, i < 16 → macB k n f i = adB (macB (baI k 32) n f) (fun i => k (16 + i)) i) := fun i _ => mac_add k (baI k 32) n f (fun i hi => by unfold baI; rw [if_neg (by omega)]) (fun i hi => by unfold baI; rw [if_pos (by omega)]) i
  have HC1 : Hid (∀ w', Sz w' v n f → Calls Try.prog 17 #[.agg (yC 32 k), v] w' fun e w'' => e = .returned (.agg (yC 16 (macB k n f))) ∧ Chg w' w'' []) := fun w' h => Mac_s k hk v n f w' h
  have HC2 : Hid (∀ w', Sz w' v n f → Calls Try.prog 17 #[.agg (yC 32 (baI k 32)), v] w' fun e w'' => e = .returned (.agg (yC 16 (macB (baI k 32) n f))) ∧ Chg w' w'' []) := fun w' h => Mac_s (baI k 32) HB.out v n f w' h
  have HC3 : Hid (∀ w' v', Sz w' v' 16 (fun i => k (16 + i)) → Calls Try.prog 18 #[.agg (yC 16 (macB (baI k 32) n f)), v'] w' fun e w'' => e = .returned (.agg (yC 16 (adB (macB (baI k 32) n f) (fun i => k (16 + i))))) ∧ Chg w' w'' []) := fun w' v' h => added_s (macB (baI k 32) n f) (fun i _ => macB_lt _ _ _ i) v' 16 _ (Nat.le_refl _) w' h
  have HC4 : Hid (∀ w', Calls Try.prog 17 #[.agg (yC 32 k), .slice none 0 0] w' fun e w'' => e = .returned (.agg (yC 16 (macB k 0 f))) ∧ Chg w' w'' []) := fun w' => Mac_s k hk (.slice none 0 0) 0 f w' ⟨none, 0, rfl, by omega, by omega, fun h => by omega⟩
  have HM1 : Hid (∀ i, i < 16 → macB k 0 f i = k (16 + i)) := fun i hi => mac_n0 f (fun j hj => hk _ (by omega)) i hi
  obtain ⟨M4, hM4⟩ : ∃ M, macB k 0 f = M := ⟨_, rfl⟩
  rw [hM4] at HC4 HM1
  obtain ⟨M3, hM3⟩ : ∃ M, adB (macB (baI k 32) n f) (fun i => k (16 + i)) = M := ⟨_, rfl⟩
  rw [hM3] at HC3 HMA
  obtain ⟨M2, hM2⟩ : ∃ M, macB (baI k 32) n f = M := ⟨_, rfl⟩
  rw [hM2] at HC2 HC3
  obtain ⟨M1, hM1⟩ : ∃ M, macB k n f = M := ⟨_, rfl⟩
  rw [hM1] at HC1 HMA
  obtain ⟨p, c, e0, _⟩ := id hv
  subst e0
  clear hk hv hM1 hM2 hM3 hM4
  go_enter Try.func6, Try.ntmps6
  go_wp2_with (first
    | (with_reducible refine box_w ?_ 23 (.tmp 0) ?_ (yC 32 k) ?_ ?_
       · rfl
       · rfl
       · rfl
       intro kb w1 hkb BK k1))
  refine (works_s w1).mono ?_
  rintro e w2 ⟨rfl, k2⟩
  have K2 : Chg w w2 [] := k1.trans1 k2
  have BK2 := BK.chg k2 (by simp)
  clear k1 k2 BK
  go_wp2_with (first
    | (refine store_w BB rfl 23 _ _ (yC 32 k) rfl rfl rfl (by rw [yC_size]; exact keyInfo) (by rw [yC_size, yC_size]) (yC_one 32 _) ?_; intro w4 BB4 k4)
    | (with_reducible refine alloc_w rfl 23 rfl (.agg (yC 32 z0)) zeroKey (yC 32 z0) rfl ?_; intro bb w3 hbb BB k3)
    | (with_reducible refine load_b BK2 23 (.tmp 2) Try.underlying23 ?_ ?_ ?_ ?_ ?_ ?_
       · rfl
       · rfl
       · rfl
       · rfl
       · (rw [yC_size]; exact keyInfo)))
  have HO : Hid ((¬ bb = kb ∧ w.heap.size ≤ bb) ∧ w.heap.size ≤ kb) := ⟨⟨by have := BK2.lt; omega, by have := K2.size; omega⟩, hkb⟩
  have K4 : Chg w w4 [] := (K2.trans1 k3).new k4 HO.out.1.2
  have BK4 := (BK2.chg k3 (by simp)).chg k4 (by have := HO.out; simp; omega)
  clear K2 k3 k4 BK2 BB hkb hbb
  go_loopw [6] (fun t6 wr => ∃ i : Nat, 16 ≤ i ∧ i ≤ 32 ∧ t6 = .int .i64 (i : Int) ∧ Blk wr bb (yC 32 (baI k i)) 23 ∧ Chg w4 wr [bb]) (fun t6 _ => (32 - intOf t6).toNat)
  case atStart => exact ⟨16, by omega, by omega, rfl, BB4.to (yC_eq fun j _ => by unfold baI; rw [if_neg (by omega)]), Chg.refl _ _⟩
  case round =>
    clear BB4
    obtain ⟨i, hi0, hi, rfl, b0, c0⟩ := hrel
    by_cases h8 : i < 32
    · have hI : (i : Int) < 32 := by omega
      have e1 : IntKind.i64.wrap ((i : Int) + 1) = (i : Int) + 1 := by rw [IntKind.wrap_i64]; omega
      have cx := (b0.cell i).trans (yC_get 32 _ i h8)
      have fx := b0.frozen i
      have b2 := (b0.setCell i (.int .u8 0)).to ((yC_set 32 _ i 0).trans (congrArg (yC 32) (baI_up k i hi0)))
      have c2 := c0.setIn (k := bb) (by simp) i (.int .u8 0)
      have HI : Hid (16 ≤ i ∧ i < 32) := ⟨hi0, h8⟩
      clear h8 hi hi0
      go_wp2_with fail
      exact ⟨⟨i + 1, by have := HI.out; omega, by have := HI.out; omega, by go_num, b2, c2⟩, by simp [intOf]; have := HI.out; omega⟩
    · obtain rfl : 32 = i := by omega
      have hI : ¬ ((32 : Nat) : Int) < 32 := by omega
      have K5 : Chg w wr [] := K4.new c0 HO.out.1.2
      have BK5 := BK4.chg c0 (by have := HO.out; simp; omega)
      obtain ⟨w5, rfl⟩ : ∃ z, z = wr := ⟨wr, rfl⟩
      clear K4 BK4 c0 hi hi0 h8
      go_wp2_with fail
      refine lt_begin (fun w' => Blk w' kb (yC 32 k) 23 ∧ Blk w' bb (yC 32 (baI k 32)) 23) (fun _ => false) (by kernel_rfl) ?_
      have hHeld := And.intro BK5.drew b0.drew
      replace K5 := K5.drew
      obtain ⟨z, hz⟩ : ∃ z, z = w5.drew := ⟨_, rfl⟩
      rw [← hz] at hHeld K5 ⊢
      clear hz BK5 b0
      refine lt_read (v := (.agg (yC 32 k))) 0 (some 19) rfl (by kernel_rfl) (by kernel_rfl) (by kernel_rfl) (by kernel_rfl) (fun _ _ _ h => h) rfl rfl (fun w hSw => ?_) hHeld ?_
      · skip; exact (exec_load_b w 23 (.tmp 2) rfl kb rfl hSw.1 Try.underlying23 rfl (by rw [yC_size]; exact keyInfo))
      try simp only [Act.put, List.setIfInBounds_toArray, List.set_cons_zero, List.set_cons_succ]
      refine lt_val (v := ?_) 1 (some 20) rfl (by kernel_rfl) (by kernel_rfl) (by kernel_rfl) (fun _ _ _ h => h) rfl rfl (fun w => ?_) ?_
      rotate_left
      · (go_simp; try with_reducible rfl)
      try simp only [Act.put, List.setIfInBounds_toArray, List.set_cons_zero, List.set_cons_succ]
      refine lt_read (v := (.agg (yC 32 (baI k 32)))) 3 (some 22) rfl (by kernel_rfl) (by kernel_rfl) (by kernel_rfl) (by kernel_rfl) (fun _ _ _ h => h) rfl rfl (fun w hSw => ?_) hHeld ?_
      · skip; exact (exec_load_b w 23 (.tmp 5) rfl bb rfl hSw.2 Try.underlying23 rfl (by rw [yC_size]; exact keyInfo))
      try simp only [Act.put, List.setIfInBounds_toArray, List.set_cons_zero, List.set_cons_succ]
      refine lt_val (v := ?_) 4 (some 23) rfl (by kernel_rfl) (by kernel_rfl) (by kernel_rfl) (fun _ _ _ h => h) rfl rfl (fun w => ?_) ?_
      rotate_left
      · (go_simp; try with_reducible rfl)
      try simp only [Act.put, List.setIfInBounds_toArray, List.set_cons_zero, List.set_cons_succ]
      refine lt_val (v := (.slice (some ⟨kb, 16, none⟩) 16 16)) 6 (some 25) rfl (by kernel_rfl) (by kernel_rfl) (by kernel_rfl) (fun _ _ _ h => h) rfl rfl (fun w => ?_) ?_
      · (go_simp; try with_reducible rfl)
      try simp only [Act.put, List.setIfInBounds_toArray, List.set_cons_zero, List.set_cons_succ]
      refine lt_one 2 rfl (by kernel_rfl) rfl (fun K hK => ?_)
      go_simp
      refine (HC1.out z (HV.out.kept K5)).mono ?_
      rintro e w6 ⟨rfl, k6⟩
      go_wp2_with fail
      refine hK.out _ _ (fun _ h => ⟨h.1.chg k6 (by simp), h.2.chg k6 (by simp)⟩) ?_
      clear hK K
      try simp only [Act.put, List.setIfInBounds_toArray, List.set_cons_zero, List.set_cons_succ]
      refine lt_one 5 rfl (by kernel_rfl) rfl (fun K hK => ?_)
      go_simp
      refine (HC2.out w6 (HV.out.kept (K5.trans1 k6))).mono ?_
      rintro e w7 ⟨rfl, k7⟩
      go_wp2_with fail
      refine hK.out _ _ (fun _ h => ⟨h.1.chg k7 (by simp), h.2.chg k7 (by simp)⟩) ?_
      clear hK K
      try simp only [Act.put, List.setIfInBounds_toArray, List.set_cons_zero, List.set_cons_succ]
      refine lt_one 7 rfl (by kernel_rfl) rfl (fun K hK => ?_)
      go_simp
      refine (HC3.out w7 (.slice (some ⟨kb, 16, none⟩) 16 16) (((hHeld.1.chg k6 (by simp)).chg k7 (by simp)).sz HK.out 16 16 16 (by omega) (by omega) (by omega))).mono ?_
      rintro e w8 ⟨rfl, k8⟩
      go_wp2_with fail
      refine hK.out _ _ (fun _ h => ⟨h.1.chg k8 (by simp), h.2.chg k8 (by simp)⟩) ?_
      clear hK K
      try simp only [Act.put, List.setIfInBounds_toArray, List.set_cons_zero, List.set_cons_succ]
      refine lt_val (v := ?_) 8 (some 27) rfl (by kernel_rfl) (by kernel_rfl) (by kernel_rfl) (fun _ _ _ h => h) rfl rfl (fun w => ?_) ?_
      rotate_left
      · (go_simp; try with_reducible rfl)
      try simp only [Act.put, List.setIfInBounds_toArray, List.set_cons_zero, List.set_cons_succ]
      refine lt_done (by kernel_rfl) ?_ _
      rw [(eqn_iff 16 _ _).2 HMA.out]
      have k68 : Chg z w8 [] := (k6.trans1 k7).trans1 k8
      have K8 : Chg w w8 [] := K5.trans1 k68
      have BK8 := hHeld.1.chg k68 (by simp)
      clear hHeld K5 k6 k7 k8 k68
      go_wp2_with (first
        | (refine store_w BS rfl 23 (.tmp 7) (.tmp 28) z32c rfl rfl rfl (by rw [z32c_is, yC_size]; exact keyInfo) (by rw [z32c_is]) (by rw [z32c_is]; exact yC_one 32 _) ?_; intro w10 BS10 k10)
        | (with_reducible refine alloc_w rfl 23 rfl (.agg (yC 32 z0)) zeroKey (yC 32 z0) rfl ?_; intro sb w9 hsb BS k9))
      rw [z32c_is] at BS10
      have HS : Hid ((¬ sb = kb ∧ w.heap.size ≤ sb)) := ⟨by have := BK8.lt; omega, by have := K8.size; omega⟩
      have K10 : Chg w w10 [] := (K8.trans1 k9).new k10 HS.out.2
      have BK10 := (BK8.chg k9 (by simp)).chg k10 (by have := HS.out; simp; omega)
      clear K8 BK8 k9 k10 BS hsb
      refine lt_begin (fun _ => True) (fun _ => false) (by kernel_rfl) ?_
      replace BK10 := BK10.drew
      replace BS10 := BS10.drew
      replace K10 := K10.drew
      obtain ⟨z11, hz⟩ : ∃ z, z = w10.drew := ⟨_, rfl⟩
      rw [← hz] at BK10 BS10 K10 ⊢
      clear hz
      refine lt_val (v := (.slice (some ⟨sb, 16, none⟩) 16 16)) 0 (some 29) rfl (by kernel_rfl) (by kernel_rfl) (by kernel_rfl) (fun _ _ _ h => h) rfl rfl (fun w => ?_) ?_
      · (go_simp; try with_reducible rfl)
      try simp only [Act.put, List.setIfInBounds_toArray, List.set_cons_zero, List.set_cons_succ]
      refine lt_val (v := (.slice (some ⟨kb, 16, none⟩) 16 16)) 1 (some 30) rfl (by kernel_rfl) (by kernel_rfl) (by kernel_rfl) (fun _ _ _ h => h) rfl rfl (fun w => ?_) ?_
      · (go_simp; try with_reducible rfl)
      try simp only [Act.put, List.setIfInBounds_toArray, List.set_cons_zero, List.set_cons_succ]
      refine lt_one 2 rfl (by kernel_rfl) rfl (fun K hK => ?_)
      refine copy_yz (.tmp 29) (.tmp 30) 26 26 rfl 5 Try.underlying26 u8Inf sb 16 16 16 (some ⟨kb, 16, none⟩) 16 16 rfl rfl 32 z0 23 BS10 16 (fun i => k (16 + i)) rfl (by omega) ⟨kb, 16, rfl, fun j hj => by rw [BK10.cell, yC_get _ _ _ (by omega)]⟩ (by omega) ?_
      intro w11 BS11 k11
      change K (Act.put _ (some 31) _) _
      refine hK.out _ _ (fun _ h => h) ?_
      clear hK K
      try simp only [Act.put, List.setIfInBounds_toArray, List.set_cons_zero, List.set_cons_succ]
      refine lt_done (by kernel_rfl) ?_ _
      have K11 : Chg w w11 [] := K10.new k11 HS.out.2
      have BK11 := BK10.chg k11 (by have := HS.out; simp; omega)
      clear K10 BK10 k11 BS10
      go_wp2_with (with_reducible refine alloc_w rfl 43 rfl (.agg (yC 16 (fun _ => 0))) zeroTag (yC 16 (fun _ => 0)) rfl ?_; intro tb w12 htb BT k12)
      have HT : Hid ((¬ tb = kb ∧ ¬ tb = sb) ∧ w.heap.size ≤ tb) := ⟨⟨by have := BK11.lt; omega, by have := BS11.lt; omega⟩, by have := K11.size; omega⟩
      have K12 : Chg w w12 [] := K11.trans1 k12
      have BK12 := BK11.chg k12 (by simp)
      have BS12 := BS11.chg k12 (by simp)
      clear K11 BK11 BS11 k12 htb
      refine lt_begin (fun _ => True) (fun _ => false) (by kernel_rfl) ?_
      replace BK12 := BK12.drew
      replace BS12 := BS12.drew
      replace BT := BT.drew
      replace K12 := K12.drew
      obtain ⟨z13, hz⟩ : ∃ z, z = w12.drew := ⟨_, rfl⟩
      rw [← hz] at BK12 BS12 BT K12 ⊢
      clear hz
      refine lt_val (v := (.slice (some ⟨tb, 0, none⟩) 16 16)) 0 (some 32) rfl (by kernel_rfl) (by kernel_rfl) (by kernel_rfl) (fun _ _ _ h => h) rfl rfl (fun w => ?_) ?_
      · (go_simp; try with_reducible rfl)
      try simp only [Act.put, List.setIfInBounds_toArray, List.set_cons_zero, List.set_cons_succ]
      refine lt_val (v := (.slice (some ⟨kb, 16, none⟩) 16 16)) 1 (some 33) rfl (by kernel_rfl) (by kernel_rfl) (by kernel_rfl) (fun _ _ _ h => h) rfl rfl (fun w => ?_) ?_
      · (go_simp; try with_reducible rfl)
      try simp only [Act.put, List.setIfInBounds_toArray, List.set_cons_zero, List.set_cons_succ]
      refine lt_one 2 rfl (by kernel_rfl) rfl (fun K hK => ?_)
      refine copy_yz (.tmp 32) (.tmp 33) 26 26 rfl 5 Try.underlying26 u8Inf tb 0 16 16 (some ⟨kb, 16, none⟩) 16 16 rfl rfl 16 (fun _ => 0) 43 BT 16 (fun i => k (16 + i)) rfl (by omega) ⟨kb, 16, rfl, fun j hj => by rw [BK12.cell, yC_get _ _ _ (by omega)]⟩ (by omega) ?_
      intro w13 BT13 k13
      change K (Act.put _ (some 34) _) _
      refine hK.out _ _ (fun _ h => h) ?_
      clear hK K
      try simp only [Act.put, List.setIfInBounds_toArray, List.set_cons_zero, List.set_cons_succ]
      refine lt_done (by kernel_rfl) ?_ _
      rw [lay_all] at BT13
      have K13 : Chg w w13 [] := K12.new k13 HT.out.2
      have BK13 := BK12.chg k13 (by have := HT.out; simp; omega)
      have BS13 := BS12.chg k13 (by have := HT.out; simp; omega)
      clear K12 BK12 BS12 k13 BT
      have HSB : Hid (∀ i, i < 32 → lay z0 16 16 (fun i => k (16 + i)) i < 256) := fun i hi => by
        unfold lay; split
        · exact HK.out _ (by omega)
        · unfold z0; omega
      have HM0 : Hid (∀ i, i < 16 → macB (lay z0 16 16 (fun i => k (16 + i))) n f i = k (16 + i)) := fun i hi => by
        rw [mac_r0 (fun j hj => by unfold lay; rw [if_neg (by omega)]; rfl) n f (fun j hj => HSB.out _ (by omega)) i hi]
        unfold lay
        rw [if_pos (by omega), Nat.add_sub_cancel_left]
      obtain ⟨S, hS⟩ : ∃ S, lay z0 16 16 (fun i => k (16 + i)) = S := ⟨_, rfl⟩
      rw [hS] at HSB HM0 BS13
      have HC5 : Hid (∀ w', Sz w' (.slice p n c) n f → Calls Try.prog 17 #[.agg (yC 32 S), .slice p n c] w' fun e w'' => e = .returned (.agg (yC 16 (macB S n f))) ∧ Chg w' w'' []) := fun w' h => Mac_s S HSB.out (.slice p n c) n f w' h
      obtain ⟨M5, hM5⟩ : ∃ M, macB S n f = M := ⟨_, rfl⟩
      rw [hM5] at HC5 HM0
      clear hM5
      obtain ⟨s, hs⟩ : ∃ s, (fun i => k (16 + i)) = s := ⟨_, rfl⟩
      have HSS : Hid (∀ i, k (16 + i) = s i) := fun i => by rw [← hs]
      have HS1 : Hid (∀ i, S i = lay z0 16 16 s i) := fun i => by rw [← hS, ← hs]
      rw [hs] at BT13
      clear hS hs
      go_wp2_with fail
      refine lt_begin (fun w' => (Blk w' kb (yC 32 k) 23 ∧ Blk w' sb (yC 32 S) 23) ∧ Blk w' tb (yC 16 s) 43) (fun _ => false) (by kernel_rfl) ?_
      have hHeld := And.intro (And.intro BK13.drew BS13.drew) BT13.drew
      replace K13 := K13.drew
      obtain ⟨z14, hz⟩ : ∃ z, z = w13.drew := ⟨_, rfl⟩
      rw [← hz] at hHeld K13 ⊢
      clear hz BK13 BS13 BT13
      refine lt_read (v := (.agg (yC 32 S))) 0 (some 35) rfl (by kernel_rfl) (by kernel_rfl) (by kernel_rfl) (by kernel_rfl) (fun _ _ _ h => h) rfl rfl (fun w hSw => ?_) hHeld ?_
      · skip; exact (exec_load_b w 23 (.tmp 7) rfl sb rfl hSw.1.2 Try.underlying23 rfl (by rw [yC_size]; exact keyInfo))
      try simp only [Act.put, List.setIfInBounds_toArray, List.set_cons_zero, List.set_cons_succ]
      refine lt_val (v := ?_) 1 (some 36) rfl (by kernel_rfl) (by kernel_rfl) (by kernel_rfl) (fun _ _ _ h => h) rfl rfl (fun w => ?_) ?_
      rotate_left
      · (go_simp; try with_reducible rfl)
      try simp only [Act.put, List.setIfInBounds_toArray, List.set_cons_zero, List.set_cons_succ]
      refine lt_read (v := (.agg (yC 16 s))) 3 (some 38) rfl (by kernel_rfl) (by kernel_rfl) (by kernel_rfl) (by kernel_rfl) (fun _ _ _ h => h) rfl rfl (fun w hSw => ?_) hHeld ?_
      · skip; exact (exec_load_b w 43 (.tmp 8) rfl tb rfl hSw.2 Try.underlying43 rfl (by rw [yC_size]; exact tagInfo))
      try simp only [Act.put, List.setIfInBounds_toArray, List.set_cons_zero, List.set_cons_succ]
      refine lt_one 2 rfl (by kernel_rfl) rfl (fun K hK => ?_)
      go_simp
      refine (HC5.out z14 (HV.out.kept K13)).mono ?_
      rintro e w15 ⟨rfl, k15⟩
      go_wp2_with fail
      refine hK.out _ _ (fun _ h => ⟨⟨h.1.1.chg k15 (by simp), h.1.2.chg k15 (by simp)⟩, h.2.chg k15 (by simp)⟩) ?_
      replace hHeld := And.intro (And.intro (hHeld.1.1.chg k15 (by simp)) (hHeld.1.2.chg k15 (by simp))) (hHeld.2.chg k15 (by simp))
      clear hK K
      try simp only [Act.put, List.setIfInBounds_toArray, List.set_cons_zero, List.set_cons_succ]
      refine lt_val (v := (.bool false)) 4 (some 39) rfl (by kernel_rfl) (by kernel_rfl) (by kernel_rfl) (fun _ _ _ h => h) rfl rfl (fun w => ?_) ?_
      · (go_simp; rw [(eqn_iff 16 _ _).2 (fun i hi => (HM0.out i hi).trans (HSS.out i))])
      try simp only [Act.put, List.setIfInBounds_toArray, List.set_cons_zero, List.set_cons_succ]
      refine lt_val (v := ?_) 5 (some 40) rfl (by kernel_rfl) (by kernel_rfl) (by kernel_rfl) (fun _ _ _ h => h) rfl rfl (fun w => ?_) ?_
      rotate_left
      · (go_simp; try with_reducible rfl)
      try simp only [Act.put, List.setIfInBounds_toArray, List.set_cons_zero, List.set_cons_succ]
      refine lt_read (v := (.agg (yC 32 k))) 6 (some 41) rfl (by kernel_rfl) (by kernel_rfl) (by kernel_rfl) (by kernel_rfl) (fun _ _ _ h => h) rfl rfl (fun w hSw => ?_) hHeld ?_
      · skip; exact (exec_load_b w 23 (.tmp 2) rfl kb rfl hSw.1.1 Try.underlying23 rfl (by rw [yC_size]; exact keyInfo))
      try simp only [Act.put, List.setIfInBounds_toArray, List.set_cons_zero, List.set_cons_succ]
      refine lt_read (v := (.agg (yC 16 s))) 8 (some 43) rfl (by kernel_rfl) (by kernel_rfl) (by kernel_rfl) (by kernel_rfl) (fun _ _ _ h => h) rfl rfl (fun w hSw => ?_) hHeld ?_
      · skip; exact (exec_load_b w 43 (.tmp 8) rfl tb rfl hSw.2 Try.underlying43 rfl (by rw [yC_size]; exact tagInfo))
      try simp only [Act.put, List.setIfInBounds_toArray, List.set_cons_zero, List.set_cons_succ]
      refine lt_one 7 rfl (by kernel_rfl) rfl (fun K hK => ?_)
      go_simp
      refine (HC4.out w15).mono ?_
      rintro e w16 ⟨rfl, k16⟩
      go_wp2_with fail
      refine hK.out _ _ (fun _ h => ⟨⟨h.1.1.chg k16 (by simp), h.1.2.chg k16 (by simp)⟩, h.2.chg k16 (by simp)⟩) ?_
      clear hK K
      try simp only [Act.put, List.setIfInBounds_toArray, List.set_cons_zero, List.set_cons_succ]
      refine lt_val (v := (.bool false)) 9 (some 44) rfl (by kernel_rfl) (by kernel_rfl) (by kernel_rfl) (fun _ _ _ h => h) rfl rfl (fun w => ?_) ?_
      · (go_simp; rw [(eqn_iff 16 _ _).2 (fun i hi => (HM1.out i hi).trans (HSS.out i))])
      try simp only [Act.put, List.setIfInBounds_toArray, List.set_cons_zero, List.set_cons_succ]
      refine lt_val (v := ?_) 10 (some 45) rfl (by kernel_rfl) (by kernel_rfl) (by kernel_rfl) (fun _ _ _ h => h) rfl rfl (fun w => ?_) ?_
      rotate_left
      · (go_simp; try with_reducible rfl)
      try simp only [Act.put, List.setIfInBounds_toArray, List.set_cons_zero, List.set_cons_succ]
      refine lt_done (by kernel_rfl) ?_ _
      have K16 : Chg w w16 [] := (K13.trans1 k15).trans1 k16
      have B16 := And.intro (And.intro (hHeld.1.1.chg k16 (by simp)) (hHeld.1.2.chg k16 (by simp))) (hHeld.2.chg k16 (by simp))
      clear hHeld K13 k15 k16
      obtain ⟨m, hm⟩ : ∃ m, Nat.min n 15 = m := ⟨_, rfl⟩
      obtain ⟨p', c', e', h1, h2, h3⟩ := id HV.out
      obtain ⟨rfl, rfl⟩ : p = p' ∧ c = c' := by simp only [Value.slice.injEq] at e'; exact ⟨e'.1, e'.2.2⟩
      have HM : Hid (m ≤ 15 ∧ m ≤ n ∧ n ≤ c ∧ c ≤ 9223372036854775807 ∧ (15 < n → m = 15) ∧ (¬ 15 < n → m = n)) := by
        have e : m = min n 15 := hm.symm
        exact ⟨by omega, by omega, h1, h2, by omega, by omega⟩
      have HVM : Hid (Sz w (.slice p m c) m f) := ⟨p, c, rfl, by have := HM.out; omega, h2, fun h0 => by
        obtain ⟨g, o, rfl, hb⟩ := h3 (by have := HM.out; omega)
        exact ⟨g, o, rfl, hb.lt, fun i hi => hb.bd i (by have := HM.out; omega), fun i hi => hb.cell i (by have := HM.out; omega)⟩⟩
      clear hm e' h1 h2 h3
      go_upto_if 49 with fail
      go_cut [9] (fun t9 wc => t9 = .slice p m c ∧ Chg w16 wc [])
      case first =>
        have hM := HM.out
        by_cases h15 : 15 < n
        · obtain rfl := hM.2.2.2.2.1 h15
          have i1 : (15 : Int) < (n : Int) := by omega
          have i2 : (15 : Int) ≤ (c : Int) := by omega
          go_wp2_with fail
          go_meet
          case rel => exact ⟨rfl, Chg.refl _ _⟩
        · obtain rfl := hM.2.2.2.2.2 h15
          have i1 : ¬ (15 : Int) < (m : Int) := by omega
          go_wp2_with fail
          go_meet
          case rel => exact ⟨rfl, Chg.refl _ _⟩
      case rest =>
        obtain ⟨rfl, k17⟩ := hcut
        obtain ⟨w17, rfl⟩ : ∃ z, z = wc := ⟨wc, rfl⟩
        have K17 := K16.trans1 k17
        have B17 := And.intro (And.intro (B16.1.1.chg k17 (by simp)) (B16.1.2.chg k17 (by simp))) (B16.2.chg k17 (by simp))
        have cx := (B17.1.2.cell 0).trans (yC_get 32 S 0 (by omega))
        have fx := B17.1.2.frozen 0
        have BS18 : Blk (w17.setCell ⟨sb, 0, none⟩ (.int .u8 1)) sb (yC 32 (up S 0 1)) 23 := (B17.1.2.setCell 0 (.int .u8 1)).to (yC_set 32 S 0 1)
        have BT18 := B17.2.setOther (show ¬ tb = sb from HT.out.1.2) 0 (.int .u8 1)
        have K18 : Chg w (w17.setCell ⟨sb, 0, none⟩ (.int .u8 1)) [] := K17.setNew HS.out.2 0 (.int .u8 1)
        clear B16 K16 k17 B17 K17
        go_wp2_with fail
        obtain ⟨w18, hw18⟩ : ∃ z, z = w17.setCell ⟨sb, 0, none⟩ (.int .u8 1) := ⟨_, rfl⟩
        rw [← hw18] at BS18 BT18 K18 ⊢
        clear hw18 cx fx
        refine lt_begin (fun w' => Blk w' tb (yC 16 s) 43) (fun i => i == 7) (by kernel_rfl) ?_
        have hHeld := BT18.drew
        replace BS18 := BS18.drew
        replace K18 := K18.drew
        obtain ⟨z, hz⟩ : ∃ z, z = w18.drew := ⟨_, rfl⟩
        rw [← hz] at hHeld BS18 K18 ⊢
        clear hz BT18
        refine lt_read (v := (.agg (yC 16 s))) 0 (some 53) rfl (by kernel_rfl) (by kernel_rfl) (by kernel_rfl) (by kernel_rfl) (fun _ _ _ h => h) rfl rfl (fun w hSw => ?_) hHeld ?_
        · skip; exact (exec_load_b w 43 (.tmp 8) rfl tb rfl hSw Try.underlying43 rfl (by rw [yC_size]; exact tagInfo))
        try simp only [Act.put, List.setIfInBounds_toArray, List.set_cons_zero, List.set_cons_succ]
        refine lt_val (v := ?_) 1 (some 54) rfl (by kernel_rfl) (by kernel_rfl) (by kernel_rfl) (fun _ _ _ h => h) rfl rfl (fun w => ?_) ?_
        rotate_left
        · (go_simp; try with_reducible rfl)
        try simp only [Act.put, List.setIfInBounds_toArray, List.set_cons_zero, List.set_cons_succ]
        refine lt_cb 2 3 rfl rfl (by kernel_rfl) (by kernel_rfl) (by kernel_rfl) rfl rfl (by decide) 55 56 (by decide) (PoA z m f) (PoC z) (PoAC z m f) (fun K hK => ?_) (fun v w' K hA hK => ?_) (fun K hK => ?_) (fun u w' K hC hK => ?_) (fun _ _ h => hHeld.chg h.2 (by simp)) (fun _ _ h => by obtain ⟨_, _, _, h⟩ := h; exact hHeld.chg h (by simp)) (fun _ _ _ h => hHeld.chg h.2.2 (by simp)) (fun v u w19 hAC => ?_)
        · go_simp
          refine (CopyBytes_z (.slice p m c) m f z (by have := HM.out; omega) (HVM.out.kept K18)).mono ?_
          rintro e wA ⟨v', rfl, O, kA⟩
          go_wp2_with fail
          exact hK.out _ _ ⟨O, kA⟩
        · refine bsl_o (.const (.int .u8 1)) rfl 1 rfl ?_
          intro g wB hg BX kB
          exact hK.out _ _ ⟨hA.1.chg kB (by simp), ⟨g, rfl, BX⟩, hA.2.trans1 kB⟩
        · refine bsl_o (.const (.int .u8 1)) rfl 1 rfl ?_
          intro g wB hg BX kB
          exact hK.out _ _ ⟨g, rfl, BX, kB⟩
        · obtain ⟨g, rfl, BX, kB⟩ := hC
          go_simp
          refine (CopyBytes_z (.slice p m c) m f w' (by have := HM.out; omega) (HVM.out.kept (K18.trans1 kB))).mono ?_
          rintro e wA ⟨v', rfl, O, kA⟩
          go_wp2_with fail
          exact hK.out _ _ ⟨O.base kB.size, ⟨g, rfl, BX.chg kA (by simp)⟩, kB.trans1 kA⟩
        obtain ⟨O19, ⟨gx, rfl, BX⟩, k19⟩ := hAC
        replace hHeld := hHeld.chg k19 (by simp)
        have BS19 := BS18.chg k19 (by simp)
        have K19 := K18.trans1 k19
        try simp only [Act.put, List.setIfInBounds_toArray, List.set_cons_zero, List.set_cons_succ]
        refine lt_one 4 rfl (by kernel_rfl) rfl (fun K hK => ?_)
        refine append_zo (.tmp 55) (.tmp 56) rfl z.heap.size v (.slice (some ⟨gx, 0, none⟩) 1 1) m 1 f (fun _ => 1) rfl rfl O19 (BX.szn (fun _ _ => (by decide : (1 : Nat) < 256)) (by decide)) (by have := HM.out; omega) k19.size ?_
        intro v5 w20 O20 k20
        change K (Act.put _ (some 57) _) _
        have nA := O19.nt hHeld (by decide)
        have nB := O19.nt BS19 (by decide)
        refine hK.out _ _ (fun _ h => h.chg k20 nA) ?_
        replace hHeld := hHeld.chg k20 nA
        have BS20 := BS19.chg k20 nB
        have K20 : Chg w w20 [] := K19.trans k20 (fun i hi => Or.inr (by have := (O19.ob_ge i hi).1; have := K18.size; omega))
        have s20 : z.heap.size ≤ w20.heap.size := by have := k19.size; have := k20.size; omega
        clear hK K
        try simp only [Act.put, List.setIfInBounds_toArray, List.set_cons_zero, List.set_cons_succ]
        refine lt_one 5 rfl (by kernel_rfl) rfl (fun K hK => ?_)
        refine append_ko (.tmp 57) (.const (.int .i64 16)) rfl z.heap.size v5 (m + 1) 16 _ rfl rfl O20 (by have := HM.out; omega) s20 ?_
        intro v6 w21 O21 k21
        change K (Act.put _ (some 58) _) _
        have nA2 := O20.nt hHeld (by decide)
        have nB2 := O20.nt BS20 (by decide)
        refine hK.out _ _ (fun _ h => h.chg k21 nA2) ?_
        replace hHeld := hHeld.chg k21 nA2
        have BS21 := BS20.chg k21 nB2
        have K21 : Chg w w21 [] := K20.trans k21 (fun i hi => Or.inr (by have := (O20.ob_ge i hi).1; have := K18.size; omega))
        have O21' : Own w21 z.heap.size v6 (m + 1 + 16) (pcB m f) := O21
        clear hK K
        try simp only [Act.put, List.setIfInBounds_toArray, List.set_cons_zero, List.set_cons_succ]
        refine lt_one 6 rfl (by kernel_rfl) rfl (fun K hK => ?_)
        go_simp
        refine (added_s s (fun i hi => by rw [← HSS.out i]; exact HK.out _ (by omega)) v6 (m + 1 + 16) (pcB m f) (by omega) w21 O21'.sz).mono ?_
        rintro e w22 ⟨rfl, k22⟩
        go_wp2_with fail
        refine hK.out _ _ (fun _ h => h.chg k22 (by simp)) ?_
        replace hHeld := hHeld.chg k22 (by simp)
        have BS22 := BS21.chg k22 (by simp)
        have K22 := K21.trans1 k22
        clear hK K
        try simp only [Act.put, List.setIfInBounds_toArray, List.set_cons_zero, List.set_cons_succ]
        refine lt_one 7 rfl (by kernel_rfl) rfl (fun K hK => ?_)
        refine wp_store_w hHeld 43 (.tmp 8) (.tmp 59) (yC 16 (adB s (pcB m f))) rfl rfl rfl (by rw [yC_size]; exact tagInfo) (by rw [yC_size, yC_size]) (yC_one 16 _) ?_
        intro w23 BT23 k23
        change K (Act.put _ none _) _
        refine hK.out _ _ (fun h => by simp at h) ?_
        clear hK K
        try simp only [Act.put, List.setIfInBounds_toArray, List.set_cons_zero, List.set_cons_succ]
        refine lt_done (by kernel_rfl) ?_ _
        have K23 : Chg w w23 [] := K22.new k23 HT.out.2
        have BS23 := BS22.chg k23 (by have := HT.out; simp; omega)
        clear hHeld BS18 BS19 BS20 BS21 BS22 K18 K19 K20 K21 K22 k19 k20 k21 k22 k23 O19 O20 O21 O21' BX nA nB nA2 nB2 s20
        by_cases hm0 : m = 0
        · obtain rfl := hm0
          clear HS1 HSB HSS HVM HM
          go_wp2_with fail
          go_region
          go_wp2_with fail
          go_ret
          exact ⟨rfl, K23.drew⟩
        · have HU : Hid (∀ i, i < 32 → up S 0 1 i < 256) := fun i hi => by
            unfold up; split
            · decide
            · exact HSB.out i hi
          have HFB : Hid (∀ i, i < m → f i < 256) := fun i hi => HVM.out.bd i hi
          have HMR : Hid (∀ i, i < 16 → macB (up S 0 1) m f i = adB s (pcB m f) i) := fun i hi => by
            rw [mac_r1 (k := up S 0 1) (by unfold up; rw [if_pos rfl]) (fun j h1 h2 => by unfold up; rw [if_neg (by omega), HS1.out]; unfold lay; rw [if_neg (by omega)]; rfl) m f (by omega) (by have := HM.out; omega) HFB.out (pcB m f) (pcB_nle m f (by have := HM.out; omega)) i]
            unfold adB
            rw [nle_eq (c := s) 16 (fun j hj => by show up S 0 1 (16 + j) = s j; unfold up; rw [if_neg (by omega), HS1.out]; unfold lay; rw [if_pos (by omega), Nat.add_sub_cancel_left])]
          have hmz : ((m : Int) == 0) = false := by simp; omega
          have HC6 : Hid (∀ w', Sz w' (.slice p m c) m f → Calls Try.prog 17 #[.agg (yC 32 (up S 0 1)), .slice p m c] w' fun e w'' => e = .returned (.agg (yC 16 (macB (up S 0 1) m f))) ∧ Chg w' w'' []) := fun w' h => Mac_s (up S 0 1) HU.out (.slice p m c) m f w' h
          obtain ⟨M6, hM6⟩ : ∃ M, macB (up S 0 1) m f = M := ⟨_, rfl⟩
          rw [hM6] at HC6 HMR
          obtain ⟨S1, hS1⟩ : ∃ M, up S 0 1 = M := ⟨_, rfl⟩
          rw [hS1] at HC6 BS23
          obtain ⟨D, hD⟩ : ∃ M, adB s (pcB m f) = M := ⟨_, rfl⟩
          rw [hD] at HMR BT23
          clear HU hM6 hS1 hD HS1 HSB hm0
          go_wp2_with fail
          refine lt_begin (fun w' => Blk w' sb (yC 32 S1) 23 ∧ Blk w' tb (yC 16 D) 43) (fun _ => false) (by kernel_rfl) ?_
          have hHeld := And.intro BS23.drew BT23.drew
          replace K23 := K23.drew
          obtain ⟨z24, hz⟩ : ∃ z, z = w23.drew := ⟨_, rfl⟩
          rw [← hz] at hHeld K23 ⊢
          clear hz BS23 BT23
          refine lt_val (v := ?_) 0 (some 60) rfl (by kernel_rfl) (by kernel_rfl) (by kernel_rfl) (fun _ _ _ h => h) rfl rfl (fun w => ?_) ?_
          rotate_left
          · (go_simp; try with_reducible rfl)
          try simp only [Act.put, List.setIfInBounds_toArray, List.set_cons_zero, List.set_cons_succ]
          refine lt_val (v := ?_) 1 (some 61) rfl (by kernel_rfl) (by kernel_rfl) (by kernel_rfl) (fun _ _ _ h => h) rfl rfl (fun w => ?_) ?_
          rotate_left
          · (go_simp; try with_reducible rfl)
          try simp only [Act.put, List.setIfInBounds_toArray, List.set_cons_zero, List.set_cons_succ]
          refine lt_val (v := (.bool false)) 2 (some 62) rfl (by kernel_rfl) (by kernel_rfl) (by kernel_rfl) (fun _ _ _ h => h) rfl rfl (fun w => ?_) ?_
          · (go_simp; try with_reducible rfl)
          try simp only [Act.put, List.setIfInBounds_toArray, List.set_cons_zero, List.set_cons_succ]
          refine lt_val (v := (.bool false)) 3 (some 63) rfl (by kernel_rfl) (by kernel_rfl) (by kernel_rfl) (fun _ _ _ h => h) rfl rfl (fun w => ?_) ?_
          · (go_simp; try with_reducible rfl)
          try simp only [Act.put, List.setIfInBounds_toArray, List.set_cons_zero, List.set_cons_succ]
          refine lt_read (v := (.agg (yC 32 S1))) 4 (some 64) rfl (by kernel_rfl) (by kernel_rfl) (by kernel_rfl) (by kernel_rfl) (fun _ _ _ h => h) rfl rfl (fun w hSw => ?_) hHeld ?_
          · skip; exact (exec_load_b w 23 (.tmp 7) rfl sb rfl hSw.1 Try.underlying23 rfl (by rw [yC_size]; exact keyInfo))
          try simp only [Act.put, List.setIfInBounds_toArray, List.set_cons_zero, List.set_cons_succ]
          refine lt_val (v := ?_) 5 (some 65) rfl (by kernel_rfl) (by kernel_rfl) (by kernel_rfl) (fun _ _ _ h => h) rfl rfl (fun w => ?_) ?_
          rotate_left
          · (go_simp; try with_reducible rfl)
          try simp only [Act.put, List.setIfInBounds_toArray, List.set_cons_zero, List.set_cons_succ]
          refine lt_read (v := (.agg (yC 16 D))) 7 (some 67) rfl (by kernel_rfl) (by kernel_rfl) (by kernel_rfl) (by kernel_rfl) (fun _ _ _ h => h) rfl rfl (fun w hSw => ?_) hHeld ?_
          · skip; exact (exec_load_b w 43 (.tmp 8) rfl tb rfl hSw.2 Try.underlying43 rfl (by rw [yC_size]; exact tagInfo))
          try simp only [Act.put, List.setIfInBounds_toArray, List.set_cons_zero, List.set_cons_succ]
          refine lt_one 6 rfl (by kernel_rfl) rfl (fun K hK => ?_)
          go_simp
          refine (HC6.out z24 (HVM.out.kept K23)).mono ?_
          rintro e w25 ⟨rfl, k25⟩
          go_wp2_with fail
          refine hK.out _ _ (fun _ h => ⟨h.1.chg k25 (by simp), h.2.chg k25 (by simp)⟩) ?_
          replace hHeld := And.intro (hHeld.1.chg k25 (by simp)) (hHeld.2.chg k25 (by simp))
          clear hK K
          try simp only [Act.put, List.setIfInBounds_toArray, List.set_cons_zero, List.set_cons_succ]
          refine lt_val (v := (.bool true)) 8 (some 68) rfl (by kernel_rfl) (by kernel_rfl) (by kernel_rfl) (fun _ _ _ h => h) rfl rfl (fun w => ?_) ?_
          · (go_simp; rw [(eqn_iff 16 _ _).2 (fun i hi => HMR.out i hi)])
          try simp only [Act.put, List.setIfInBounds_toArray, List.set_cons_zero, List.set_cons_succ]
          refine lt_val (v := (.bool true)) 9 (some 69) rfl (by kernel_rfl) (by kernel_rfl) (by kernel_rfl) (fun _ _ _ h => h) rfl rfl (fun w => ?_) ?_
          · (go_simp; try with_reducible rfl)
          try simp only [Act.put, List.setIfInBounds_toArray, List.set_cons_zero, List.set_cons_succ]
          refine lt_val (v := ?_) 10 (some 4) rfl (by kernel_rfl) (by kernel_rfl) (by kernel_rfl) (fun _ _ _ h => h) rfl rfl (fun w => ?_) ?_
          rotate_left
          · (go_simp; try with_reducible rfl)
          try simp only [Act.put, List.setIfInBounds_toArray, List.set_cons_zero, List.set_cons_succ]
          refine lt_done (by kernel_rfl) ?_ _
          have K25 := K23.trans1 k25
          go_wp2_with fail
          go_ret
          exact ⟨rfl, K25⟩
end Go.Proofs.Ytpdbdaleheeldaa
