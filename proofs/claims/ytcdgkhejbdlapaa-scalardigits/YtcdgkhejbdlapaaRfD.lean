/- rimeref02.Digits. -/
import Derived.Test.YtcdgkhejbdlapaaOwnI
import Derived.Test.YtcdgkhejbdlapaaRBack
import Derived.Test.YtcdgkhejbdlapaaRDig
set_option linter.unusedVariables false
set_option linter.unusedSimpArgs false
set_option linter.unnecessarySimpa false
namespace Go.Proofs.Ytcdgkhejbdlapaa
open Go.RowKit N

theorem u8_and15 (x : Nat) (h : x < 256) : bits .and .u8 (x : Int) 15 = ((x % 16 : Nat) : Int) := by
  have := u8_and_nat x 15 h (by decide)
  rw [show (15 : Nat) = 2 ^ 4 - 1 from rfl, Nat.and_two_pow_sub_one_eq_mod] at this
  exact this
theorem nib_even (n j : Nat) : win n (4 * (2 * j)) 4 = n / 256 ^ j % 256 % 16 := by
  unfold win
  rw [show 4 * (2 * j) = 8 * j by omega, Nat.pow_mul]
  show n / 256 ^ j % 16 = _
  omega
theorem nib_odd (n j : Nat) : win n (4 * (2 * j + 1)) 4 = n / 256 ^ j % 256 / 16 % 16 := by
  unfold win
  rw [show 4 * (2 * j + 1) = 8 * j + 4 by omega, Nat.pow_add, Nat.pow_mul, ← Nat.div_div_eq_div_mul]
  show n / 256 ^ j / 16 % 16 = _
  omega
/-- What a round of the reference's digits comes to, t being the nibble and the carry. -/
theorem ref_facts (n i t : Nat) (hi : i < 64) (ht : win n (4 * i) 4 + dc n i = t) :
    t ≤ 16 ∧ ((7 < t ∧ i < 63 ∧ dc n (i + 1) = 1 ∧ dd n i = (t : Int) - 16) ∨ (¬ (7 < t) ∧ dc n (i + 1) = 0 ∧ dd n i = (t : Int)) ∨ (7 < t ∧ ¬ (i < 63) ∧ dd n i = (t : Int))) := by
  have h1 := win4 n i
  have h2 := dc_le n i
  have e := dc_succ n i
  have hd : dd n i = if i < 63 then ((win n (4 * i) 4 + dc n i : Nat) : Int) - 16 * ((dc n (i + 1) : Nat) : Int) else ((win n (4 * i) 4 + dc n i : Nat) : Int) := rfl
  rw [ht] at hd e
  generalize dc n (i + 1) = q at *
  generalize dd n i = V at *
  generalize win n (4 * i) 4 = W at *
  generalize dc n i = c at *
  refine ⟨by omega, ?_⟩
  by_cases h7 : 7 < t
  · by_cases h63 : i < 63
    · rw [if_pos h63] at hd
      have : q = 1 := by omega
      subst this
      exact Or.inl ⟨h7, h63, rfl, by omega⟩
    · rw [if_neg h63] at hd
      exact Or.inr (Or.inr ⟨h7, h63, hd⟩)
  · have : q = 0 := by omega
    subst this
    refine Or.inr (Or.inl ⟨h7, rfl, ?_⟩)
    rw [hd]
    split <;> omega
theorem w64s (W c : Nat) (h1 : W < 16) (h2 : c ≤ 1) : wrap64 ((W : Int) + (c : Int)) = ((W + c : Nat) : Int) := by unfold wrap64; omega
theorem w64w (W : Nat) (h1 : W < 16) : wrap64 (W : Int) = (W : Int) := by unfold wrap64; omega
theorem m64 (i : Nat) (h : i < 64) : (64 - intOf (.int .i64 ((i : Int) + 1))).toNat < (64 - intOf (.int .i64 (i : Int))).toNat := by simp [intOf]; omega
theorem by8_b (n j : Nat) : ∃ b : Nat, by8 (n : Int) j = (b : Int) ∧ b < 256 ∧ n / 256 ^ j % 256 = b := ⟨_, by8_nat n j, Nat.mod_lt _ (by decide), rfl⟩
/-- The loop's relation. -/
def DR (w : World) (n gc b3 : Nat) (tv tc ti : Value) (wr : World) : Prop :=
  ∃ (i : Nat) (v : Value) (c : Int), i ≤ 64 ∧ v = tv ∧ tc = .int .i64 c ∧ (i < 64 → c = ((dc n i : Nat) : Int)) ∧ ti = .int .i64 (i : Int) ∧ OwnI wr b3 v i (dd n) ∧ b3 ≤ wr.heap.size ∧ Blk wr gc (feC (n : Int)) 24 ∧ Chg w wr []
attribute [local irreducible] dd dc win
set_option maxHeartbeats 4000000 in
set_option maxRecDepth 100000 in
theorem Digits_r (m : Nat) (hm : m < 115792089237316195423570985008687907853269984665640564039457584007913129639936) (n : Nat) (hn : m % LN = n) (w : World) :
    Calls Try.prog 55 #[fe (m : Int)] w fun e w' => ∃ v, e = .returned v ∧ Si w' v 64 (dd n) ∧ Chg w w' [] := by
  have F0 := Blk.new w (feC (m : Int)) 24
  have CC := (Chg.refl w []).alloc (.cells (feC (m : Int)) 24)
  go_enter Try.func55, Try.ntmps55
  go_wp2_with (refine wpList_load_row rfl 24 _ rfl w.heap.size rfl 24 _ (0, 0) _ F0 Try.underlying24 rfl feInfo ?_)
  refine (Value_r m hm _).mono ?_
  rintro e v1 ⟨rfl, k⟩
  rw [hn]
  replace CC := CC.trans1 k
  clear F0 k
  go_wp2_with fail
  refine (Back_r n _).mono ?_
  rintro e v2 ⟨rfl, k⟩
  replace CC := CC.trans1 k
  clear k
  have FC := Blk.new v2 z32 24
  have K2 : Chg w ((v2.alloc (.cells z32 24)).setRow v2.heap.size (feC (n : Int))) [] := (CC.alloc _).setRowNew CC.size _
  go_wp2_with (refine wpList_store_row rfl 24 _ _ rfl v2.heap.size (feC (n : Int)) rfl rfl 24 _ FC feInfo rfl (feC_one _) ?_)
  replace FC := FC.setRow (feC (n : Int))
  try (change Code.wp _ _ _ _ ((v2.alloc (.cells z32 24)).setRow v2.heap.size (feC (n : Int))))
  have hgc : w.heap.size ≤ v2.heap.size := CC.size
  generalize (v2.alloc (.cells z32 24)).setRow v2.heap.size (feC (n : Int)) = v3 at *
  generalize v2.heap.size = gc at *
  have O0 := OwnI.nil v3 v3.heap.size (dd n)
  have hb3 : gc < v3.heap.size := FC.lt
  have hw3 : w.heap.size ≤ v3.heap.size := K2.size
  obtain ⟨b3, eb3⟩ : ∃ b, v3.heap.size = b := ⟨_, rfl⟩
  rw [eb3] at O0 hb3 hw3
  have HB3 : Hid (v3.heap.size = b3) := eb3
  clear eb3
  have d0 : dc n 0 = 0 := by unfold dc; rfl
  go_loopw [4, 5, 6] (fun tv tc ti wr => DR w n gc b3 tv tc ti wr) (fun _ _ ti _ => (64 - intOf ti).toNat)
  case atStart => unfold DR; exact ⟨0, _, 0, by decide, rfl, rfl, fun _ => by rw [d0]; rfl, rfl, O0, Nat.le_of_eq HB3.out.symm, FC, K2⟩
  case round =>
    clear O0 FC K2 CC d0 hm hn
    obtain ⟨i, v, c, hi, rfl, rfl, hc, rfl, OA, hbw, FC, KK⟩ := hrel
    have HGB : Hid (gc < b3) := hb3
    have HWB : Hid (w.heap.size ≤ b3) := hw3
    have HBW : Hid (b3 ≤ wr.heap.size) := hbw
    clear hb3 hw3 hbw hgc HB3
    by_cases h : i < 64
    · have hI : (i : Int) < 64 := by omega
      have HM : Hid _ := m64 i h
      have HI1 : Hid (i + 1 ≤ 64) := by show i + 1 ≤ 64; omega
      have HC : Hid (i ≤ 1000) := by show i ≤ 1000; omega
      obtain rfl := hc h
      obtain ⟨t, ht⟩ : ∃ t, win n (4 * i) 4 + dc n i = t := ⟨_, rfl⟩
      obtain ⟨h16, hcases⟩ := ref_facts n i t h ht
      have e5 := w64s _ _ (win4 n i) (dc_le n i)
      rw [ht] at e5
      have eW : wrap64 ((win n (4 * i) 4 : Nat) : Int) = ((win n (4 * i) 4 : Nat) : Int) := w64w _ (win4 n i)
      generalize hW : win n (4 * i) 4 = W at *
      have HD : Hid (dc n i ≤ 1) := dc_le n i
      generalize hdc : dc n i = cc at *
      obtain ⟨j, hj⟩ : ∃ j, i / 2 = j := ⟨_, rfl⟩
      have hj32 : j < 32 := by omega
      obtain ⟨b, hb, hb256, hbn⟩ := by8_b n j
      have cl : wr.cell? ⟨gc, j, none⟩ = some (.int .u8 (b : Int)) := by rw [FC.cell, feC_get _ j hj32, hb]
      have q1 : (i : Int).tdiv 2 = (j : Int) := by rw [Int.tdiv_eq_ediv_of_nonneg (by omega)]; omega
      have hjI : (j : Int) < 32 := by omega
      rcases Nat.mod_two_eq_zero_or_one i with hp | hp
      · have q2 : (i : Int).tmod 2 = 0 := by rw [Int.tmod_eq_emod_of_nonneg (by omega)]; omega
        have hij : i = 2 * j := by omega
        have eA : bits .and .u8 (b : Int) 15 = (W : Int) := by rw [u8_and15 b hb256, ← hbn, ← hW, hij, nib_even]
        clear hij
        clear hp hj hj32 hb hb256 hbn hW hdc ht h hi hc
        rcases hcases with ⟨g1, g2, g3, g4⟩ | ⟨g1, g3, g4⟩ | ⟨g1, g2, g4⟩
        · have i1 : (7 : Int) < (t : Int) := by omega
          have i2 : (i : Int) < 63 := by omega
          obtain ⟨V, hV⟩ : ∃ V, (t : Int) - 16 = V := ⟨_, rfl⟩
          have e6 : wrap64 ((t : Int) - 16) = V := by rw [← hV]; unfold wrap64; omega
          rw [hV] at g4
          have HQ : Hid (i + 1 < 64 → (1 : Int) = ((dc n (i + 1) : Nat) : Int)) := fun _ => by rw [g3]; rfl
          have HG : Hid _ := g4
          have K1 : Chg w (wr.alloc (.cells #[.int .i64 V] 3)) [] := KK.alloc _
          have NB := Blk.new wr #[.int .i64 V] 3
          have OA1 : OwnI (wr.alloc (.cells #[.int .i64 V] 3)) b3 v i (dd n) := OA.chg ((Chg.refl wr []).alloc _) (fun _ _ h => by simp at h)
          have FC1 := FC.alloc (.cells #[.int .i64 V] 3)
          have OB : Hid (∀ k ∈ ob v, b3 ≤ k) := fun k hk => (OA1.ob_ge k hk).1
          have HB4 : Hid (b3 ≤ (wr.alloc (.cells #[.int .i64 V] 3)).heap.size) := Nat.le_trans HBW.out (by simp)
          clear g1 g4 hV g2 g3 h16
          go_wp2_with (refine append_i rfl (.tmp 36) (.tmp 38) rfl b3 v wr.heap.size i (dd n) V rfl rfl OA1 NB HG.out HC.out HB4.out ?_; intro a1 w1 O1 q1)
          exact ⟨by unfold DR; exact ⟨i + 1, _, _, HI1.out, rfl, rfl, HQ.out, by go_num, O1, Nat.le_trans HB4.out q1.size, FC1.chg q1 (fun hx => Nat.not_lt.2 (OB.out _ hx) HGB.out), K1.trans q1 (fun j hj => Or.inr (Nat.le_trans HWB.out (OB.out j hj)))⟩, HM.out⟩
        · have i1 : ¬ (7 : Int) < (t : Int) := by omega
          obtain ⟨V, hV⟩ : ∃ V, (t : Int) = V := ⟨_, rfl⟩
          rw [hV] at g4
          have HQ : Hid (i + 1 < 64 → (0 : Int) = ((dc n (i + 1) : Nat) : Int)) := fun _ => by rw [g3]; rfl
          rw [← hV] at g4
          have HG : Hid _ := g4
          have K1 : Chg w (wr.alloc (.cells #[.int .i64 (t : Int)] 3)) [] := KK.alloc _
          have NB := Blk.new wr #[.int .i64 (t : Int)] 3
          have OA1 : OwnI (wr.alloc (.cells #[.int .i64 (t : Int)] 3)) b3 v i (dd n) := OA.chg ((Chg.refl wr []).alloc _) (fun _ _ h => by simp at h)
          have FC1 := FC.alloc (.cells #[.int .i64 (t : Int)] 3)
          have OB : Hid (∀ k ∈ ob v, b3 ≤ k) := fun k hk => (OA1.ob_ge k hk).1
          have HB4 : Hid (b3 ≤ (wr.alloc (.cells #[.int .i64 (t : Int)] 3)).heap.size) := Nat.le_trans HBW.out (by simp)
          clear g1 g4 hV g3 h16
          go_wp2_with (refine append_i rfl (.tmp 36) (.tmp 38) rfl b3 v wr.heap.size i (dd n) (t : Int) rfl rfl OA1 NB HG.out HC.out HB4.out ?_; intro a1 w1 O1 q1)
          exact ⟨by unfold DR; exact ⟨i + 1, _, _, HI1.out, rfl, rfl, HQ.out, by go_num, O1, Nat.le_trans HB4.out q1.size, FC1.chg q1 (fun hx => Nat.not_lt.2 (OB.out _ hx) HGB.out), K1.trans q1 (fun j hj => Or.inr (Nat.le_trans HWB.out (OB.out j hj)))⟩, HM.out⟩
        · have i1 : (7 : Int) < (t : Int) := by omega
          have i2 : ¬ (i : Int) < 63 := by omega
          obtain ⟨V, hV⟩ : ∃ V, (t : Int) = V := ⟨_, rfl⟩
          rw [hV] at g4
          have HQ : Hid (i + 1 < 64 → (0 : Int) = ((dc n (i + 1) : Nat) : Int)) := fun hq => by omega
          rw [← hV] at g4
          have HG : Hid _ := g4
          have K1 : Chg w (wr.alloc (.cells #[.int .i64 (t : Int)] 3)) [] := KK.alloc _
          have NB := Blk.new wr #[.int .i64 (t : Int)] 3
          have OA1 : OwnI (wr.alloc (.cells #[.int .i64 (t : Int)] 3)) b3 v i (dd n) := OA.chg ((Chg.refl wr []).alloc _) (fun _ _ h => by simp at h)
          have FC1 := FC.alloc (.cells #[.int .i64 (t : Int)] 3)
          have OB : Hid (∀ k ∈ ob v, b3 ≤ k) := fun k hk => (OA1.ob_ge k hk).1
          have HB4 : Hid (b3 ≤ (wr.alloc (.cells #[.int .i64 (t : Int)] 3)).heap.size) := Nat.le_trans HBW.out (by simp)
          clear g1 g4 hV g2 h16
          go_wp2_with (refine append_i rfl (.tmp 36) (.tmp 38) rfl b3 v wr.heap.size i (dd n) (t : Int) rfl rfl OA1 NB HG.out HC.out HB4.out ?_; intro a1 w1 O1 q1)
          exact ⟨by unfold DR; exact ⟨i + 1, _, _, HI1.out, rfl, rfl, HQ.out, by go_num, O1, Nat.le_trans HB4.out q1.size, FC1.chg q1 (fun hx => Nat.not_lt.2 (OB.out _ hx) HGB.out), K1.trans q1 (fun j hj => Or.inr (Nat.le_trans HWB.out (OB.out j hj)))⟩, HM.out⟩
      · have q2 : (i : Int).tmod 2 = 1 := by rw [Int.tmod_eq_emod_of_nonneg (by omega)]; omega
        have hij : i = 2 * j + 1 := by omega
        obtain ⟨b2, hb2⟩ : ∃ x, b / 16 = x := ⟨_, rfl⟩
        have eS : (b : Int) / 16 = (b2 : Int) := by omega
        have eA : bits .and .u8 (b2 : Int) 15 = (W : Int) := by rw [u8_and15 b2 (by omega), ← hb2, ← hbn, ← hW, hij, nib_odd]
        clear hb2 hij
        clear hp hj hj32 hb hb256 hbn hW hdc ht h hi hc
        rcases hcases with ⟨g1, g2, g3, g4⟩ | ⟨g1, g3, g4⟩ | ⟨g1, g2, g4⟩
        · have i1 : (7 : Int) < (t : Int) := by omega
          have i2 : (i : Int) < 63 := by omega
          obtain ⟨V, hV⟩ : ∃ V, (t : Int) - 16 = V := ⟨_, rfl⟩
          have e6 : wrap64 ((t : Int) - 16) = V := by rw [← hV]; unfold wrap64; omega
          rw [hV] at g4
          have HQ : Hid (i + 1 < 64 → (1 : Int) = ((dc n (i + 1) : Nat) : Int)) := fun _ => by rw [g3]; rfl
          have HG : Hid _ := g4
          have K1 : Chg w (wr.alloc (.cells #[.int .i64 V] 3)) [] := KK.alloc _
          have NB := Blk.new wr #[.int .i64 V] 3
          have OA1 : OwnI (wr.alloc (.cells #[.int .i64 V] 3)) b3 v i (dd n) := OA.chg ((Chg.refl wr []).alloc _) (fun _ _ h => by simp at h)
          have FC1 := FC.alloc (.cells #[.int .i64 V] 3)
          have OB : Hid (∀ k ∈ ob v, b3 ≤ k) := fun k hk => (OA1.ob_ge k hk).1
          have HB4 : Hid (b3 ≤ (wr.alloc (.cells #[.int .i64 V] 3)).heap.size) := Nat.le_trans HBW.out (by simp)
          clear g1 g4 hV g2 g3 h16
          go_wp2_with (refine append_i rfl (.tmp 36) (.tmp 38) rfl b3 v wr.heap.size i (dd n) V rfl rfl OA1 NB HG.out HC.out HB4.out ?_; intro a1 w1 O1 q1)
          exact ⟨by unfold DR; exact ⟨i + 1, _, _, HI1.out, rfl, rfl, HQ.out, by go_num, O1, Nat.le_trans HB4.out q1.size, FC1.chg q1 (fun hx => Nat.not_lt.2 (OB.out _ hx) HGB.out), K1.trans q1 (fun j hj => Or.inr (Nat.le_trans HWB.out (OB.out j hj)))⟩, HM.out⟩
        · have i1 : ¬ (7 : Int) < (t : Int) := by omega
          obtain ⟨V, hV⟩ : ∃ V, (t : Int) = V := ⟨_, rfl⟩
          rw [hV] at g4
          have HQ : Hid (i + 1 < 64 → (0 : Int) = ((dc n (i + 1) : Nat) : Int)) := fun _ => by rw [g3]; rfl
          rw [← hV] at g4
          have HG : Hid _ := g4
          have K1 : Chg w (wr.alloc (.cells #[.int .i64 (t : Int)] 3)) [] := KK.alloc _
          have NB := Blk.new wr #[.int .i64 (t : Int)] 3
          have OA1 : OwnI (wr.alloc (.cells #[.int .i64 (t : Int)] 3)) b3 v i (dd n) := OA.chg ((Chg.refl wr []).alloc _) (fun _ _ h => by simp at h)
          have FC1 := FC.alloc (.cells #[.int .i64 (t : Int)] 3)
          have OB : Hid (∀ k ∈ ob v, b3 ≤ k) := fun k hk => (OA1.ob_ge k hk).1
          have HB4 : Hid (b3 ≤ (wr.alloc (.cells #[.int .i64 (t : Int)] 3)).heap.size) := Nat.le_trans HBW.out (by simp)
          clear g1 g4 hV g3 h16
          go_wp2_with (refine append_i rfl (.tmp 36) (.tmp 38) rfl b3 v wr.heap.size i (dd n) (t : Int) rfl rfl OA1 NB HG.out HC.out HB4.out ?_; intro a1 w1 O1 q1)
          exact ⟨by unfold DR; exact ⟨i + 1, _, _, HI1.out, rfl, rfl, HQ.out, by go_num, O1, Nat.le_trans HB4.out q1.size, FC1.chg q1 (fun hx => Nat.not_lt.2 (OB.out _ hx) HGB.out), K1.trans q1 (fun j hj => Or.inr (Nat.le_trans HWB.out (OB.out j hj)))⟩, HM.out⟩
        · have i1 : (7 : Int) < (t : Int) := by omega
          have i2 : ¬ (i : Int) < 63 := by omega
          obtain ⟨V, hV⟩ : ∃ V, (t : Int) = V := ⟨_, rfl⟩
          rw [hV] at g4
          have HQ : Hid (i + 1 < 64 → (0 : Int) = ((dc n (i + 1) : Nat) : Int)) := fun hq => by omega
          rw [← hV] at g4
          have HG : Hid _ := g4
          have K1 : Chg w (wr.alloc (.cells #[.int .i64 (t : Int)] 3)) [] := KK.alloc _
          have NB := Blk.new wr #[.int .i64 (t : Int)] 3
          have OA1 : OwnI (wr.alloc (.cells #[.int .i64 (t : Int)] 3)) b3 v i (dd n) := OA.chg ((Chg.refl wr []).alloc _) (fun _ _ h => by simp at h)
          have FC1 := FC.alloc (.cells #[.int .i64 (t : Int)] 3)
          have OB : Hid (∀ k ∈ ob v, b3 ≤ k) := fun k hk => (OA1.ob_ge k hk).1
          have HB4 : Hid (b3 ≤ (wr.alloc (.cells #[.int .i64 (t : Int)] 3)).heap.size) := Nat.le_trans HBW.out (by simp)
          clear g1 g4 hV g2 h16
          go_wp2_with (refine append_i rfl (.tmp 36) (.tmp 38) rfl b3 v wr.heap.size i (dd n) (t : Int) rfl rfl OA1 NB HG.out HC.out HB4.out ?_; intro a1 w1 O1 q1)
          exact ⟨by unfold DR; exact ⟨i + 1, _, _, HI1.out, rfl, rfl, HQ.out, by go_num, O1, Nat.le_trans HB4.out q1.size, FC1.chg q1 (fun hx => Nat.not_lt.2 (OB.out _ hx) HGB.out), K1.trans q1 (fun j hj => Or.inr (Nat.le_trans HWB.out (OB.out j hj)))⟩, HM.out⟩
    · have hI : ¬ (i : Int) < 64 := by omega
      obtain rfl : i = 64 := by omega
      go_wp2_with fail
      go_ret
      exact ⟨_, rfl, OA.si (by decide), KK⟩
end Go.Proofs.Ytcdgkhejbdlapaa
