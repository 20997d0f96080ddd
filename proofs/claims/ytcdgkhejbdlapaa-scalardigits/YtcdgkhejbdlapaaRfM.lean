/- rimeref02.Naf. -/
import Derived.Test.YtcdgkhejbdlapaaRfN
import Derived.Test.YtcdgkhejbdlapaaRDig
set_option linter.unusedVariables false
set_option linter.unusedSimpArgs false
set_option linter.unnecessarySimpa false
namespace Go.Proofs.Ytcdgkhejbdlapaa
open Go.RowKit N

theorem vn_bd (wd n : Nat) (hw : wd ≤ 8) (hw1 : 1 ≤ wd) (hn : n < 115792089237316195423570985008687907853269984665640564039457584007913129639936) : ∀ i, vn wd n i < 231584178474632390847141970017375815706539969331281128078915168015826259279872
  | 0 => by show n < _; omega
  | i + 1 => by
    have ih := vn_bd wd n hw hw1 hn i
    show snx wd (vn wd n i) < _
    generalize vn wd n i = V at *
    unfold snx
    split
    · have e := two_pow_two wd hw1
      have hp := pow_le8 wd hw
      obtain ⟨P, hP⟩ : ∃ P, P = 2 ^ (wd - 1) := ⟨_, rfl⟩
      have hPp : 0 < P := by rw [hP]; exact Nat.pow_pos (by decide)
      rw [← hP] at e ⊢
      have hr : V % 2 ^ wd / P ≤ 1 := by
        have h1 : V % 2 ^ wd < 2 * P := by rw [← e]; exact Nat.mod_lt _ (Nat.pow_pos (by decide))
        have h2 : V % 2 ^ wd / P < 2 := by rw [Nat.div_lt_iff_lt_mul hPp]; exact h1
        omega
      have hq : P * (V / 2 ^ wd) ≤ V := by
        rw [e]
        refine Nat.le_trans ?_ (Nat.div_mul_le_self V (2 * P))
        rw [Nat.mul_comm]
        exact Nat.mul_le_mul_left _ (by omega)
      have hq2 : P * (V / 2 ^ wd) ≤ V / 2 := by
        rw [e, Nat.le_div_iff_mul_le (by decide)]
        refine Nat.le_trans ?_ (Nat.div_mul_le_self V (2 * P))
        rw [Nat.mul_comm P, Nat.mul_assoc, Nat.mul_comm P 2]
        exact Nat.le_refl _
      rw [Nat.mul_add]
      have h3 : P * (V % 2 ^ wd / P) ≤ P * 1 := Nat.mul_le_mul_left _ hr
      generalize P * (V / 2 ^ wd) = a at *
      generalize P * (V % 2 ^ wd / P) = b at *
      omega
    · omega
theorem dn_is (wd n i : Nat) : dn wd n i = sdg wd (vn wd n i) := rfl
theorem vn_is (wd n i : Nat) : vn wd n (i + 1) = snx wd (vn wd n i) := rfl
/-- The loop's relation. -/
def NR (w : World) (n wd g7 b3 : Nat) (tv ti : Value) (wr : World) : Prop :=
  ∃ (i : Nat) (v : Value), i ≤ 256 ∧ v = tv ∧ ti = .int .i64 (i : Int) ∧ OwnI wr b3 v i (dn wd n) ∧ b3 ≤ wr.heap.size ∧ Blk wr g7 (uC 9 (dg (vn wd n i))) 95 ∧ Chg w wr []
theorem m256 (i : Nat) (h : i < 256) : (256 - intOf (.int .i64 ((i : Int) + 1))).toNat < (256 - intOf (.int .i64 (i : Int))).toNat := by simp [intOf]; omega
theorem mk9 (W : World) : (Instr.makeSlice 99 (.int .i64 9) (.int .i64 9)).run Try.prog W = .ok (.slice (some ⟨W.heap.size, 0, none⟩) 9 9) (W.alloc (.cells (uC 9 fun _ => 0) 95)) := by kernel_rfl
theorem u32_and1 (x : Nat) (h : x < 4294967296) : bits .and .u32 (x : Int) 1 = ((x % 2 : Nat) : Int) := by
  have := u32_and_nat x 1 h (by decide)
  rw [Nat.and_one_is_mod] at this
  exact this
theorem u32_mask (x wd : Nat) (h : x < 4294967296) (hw : wd ≤ 8) : bits .and .u32 (x : Int) ((2 ^ wd - 1) % 4294967296) = ((x % 2 ^ wd : Nat) : Int) := by
  have hp := pow_le8 wd hw
  have hp0 : 0 < 2 ^ wd := Nat.pow_pos (by decide)
  have e : ((2 : Int) ^ wd - 1) % 4294967296 = ((2 ^ wd - 1 : Nat) : Int) := by
    have e1 : (2 : Int) ^ wd = ((2 ^ wd : Nat) : Int) := by rw [Int.natCast_pow]; rfl
    rw [e1]
    generalize 2 ^ wd = P at *
    omega
  rw [e, u32_and_nat x (2 ^ wd - 1) h (by omega), Nat.and_two_pow_sub_one_eq_mod]
theorem w64_nat (x : Nat) (h : x < 1000) : wrap64 (x : Int) = (x : Int) := by unfold wrap64; omega
theorem w64_pow (k P : Nat) (h : 2 ^ k = P) (hP : P < 1000) : wrap64 (2 ^ k) = (P : Int) := by
  have e1 : (2 : Int) ^ k = (P : Int) := by rw [← h, Int.natCast_pow]; rfl
  rw [e1]; exact w64_nat P hP
theorem w64_dif (r P : Nat) (D : Int) (hr : r < 1000) (hP : P < 1000) (h : (r : Int) - (P : Int) = D) : wrap64 ((r : Int) - (P : Int)) = D := by unfold wrap64; omega
theorem naf_core1 (V T r Q : Nat) (hV : V = 2 * T + r) (hr : r < 2 * Q) (hq : Q ≤ r) (hQ2 : 2 * Q ≤ 256) : (2 * T + 2 * Q) / 2 = T + Q ∧ ((2 * T + 2 * Q : Nat) : Int) = (V : Int) - ((r : Int) - ((2 * Q : Nat) : Int)) ∧ -200 ≤ (r : Int) - ((2 * Q : Nat) : Int) ∧ (r : Int) - ((2 * Q : Nat) : Int) ≤ 200 ∧ 2 * T + 2 * Q ≤ V + 256 ∧ (Q : Int) ≤ (r : Int) := by omega
theorem naf_core2 (V T r Q : Nat) (hV : V = 2 * T + r) (hr : r < 2 * Q) (hq : ¬ Q ≤ r) (hQ2 : 2 * Q ≤ 256) : (2 * T) / 2 = T ∧ ((2 * T : Nat) : Int) = (V : Int) - (r : Int) ∧ -200 ≤ (r : Int) ∧ (r : Int) ≤ 200 ∧ 2 * T ≤ V + 256 ∧ ¬ (Q : Int) ≤ (r : Int) := by omega
theorem naf_big (V W : Nat) (h1 : V < 231584178474632390847141970017375815706539969331281128078915168015826259279872) (h2 : W ≤ V + 256) : W < 497323236409786642155382248146820840100456150797347717440463976893159497012533375533056 := by omega
theorem div_one_of (r Q : Nat) (h0 : 0 < Q) (h1 : Q ≤ r) (h2 : r < 2 * Q) : r / Q = 1 := by
  have a1 : r / Q < 2 := by rw [Nat.div_lt_iff_lt_mul h0]; omega
  have a2 : 1 ≤ r / Q := by rw [Nat.le_div_iff_mul_le h0]; omega
  omega
/-- All that a round of the reference's Naf wants to know. -/
theorem ref_naf (wd V x : Nat) (hw1 : 2 ≤ wd) (hw : wd ≤ 8) (hV : V < 231584178474632390847141970017375815706539969331281128078915168015826259279872) (hx : dg V 0 = x) :
    (bits .and .u32 (x : Int) 1 = 0 ∧ sdg wd V = 0 ∧ snx wd V = V / 2) ∨
    (bits .and .u32 (x : Int) 1 = 1 ∧ ∃ r P Q W : Nat, ∃ D : Int, bits .and .u32 (x : Int) ((2 ^ wd - 1) % 4294967296) = (r : Int) ∧ wrap64 (r : Int) = (r : Int) ∧ wrap64 (2 ^ wd) = (P : Int) ∧ wrap64 (2 ^ (wd - 1)) = (Q : Int) ∧
      sdg wd V = D ∧ W / 2 = snx wd V ∧ (W : Int) = (V : Int) - D ∧ -200 ≤ D ∧ D ≤ 200 ∧ W < 497323236409786642155382248146820840100456150797347717440463976893159497012533375533056 ∧
      (((Q : Int) ≤ (r : Int) ∧ wrap64 ((r : Int) - (P : Int)) = D) ∨ (¬ (Q : Int) ≤ (r : Int) ∧ (r : Int) = D))) := by
  have hx2 : V % 4294967296 = x := by rw [← hx]; unfold dg; rw [Nat.pow_zero, Nat.div_one]
  have hxl : x < 4294967296 := by rw [← hx2]; exact Nat.mod_lt _ (by decide)
  have hpar : x % 2 = V % 2 := by rw [← hx2]; exact Nat.mod_mod_of_dvd _ ⟨2147483648, rfl⟩
  rw [u32_and1 x hxl, hpar]
  rcases Nat.mod_two_eq_zero_or_one V with h | h
  · refine Or.inl ⟨by rw [h]; rfl, ?_, ?_⟩
    · unfold sdg; rw [if_neg (by omega)]
    · unfold snx; rw [if_neg (by omega)]
  · refine Or.inr ⟨by rw [h]; rfl, V % 2 ^ wd, 2 ^ wd, 2 ^ (wd - 1), ?_⟩
    have hm : x % 2 ^ wd = V % 2 ^ wd := by
      rw [← hx2]
      refine Nat.mod_mod_of_dvd _ ⟨2 ^ (32 - wd), ?_⟩
      rw [← Nat.pow_add, show wd + (32 - wd) = 32 by omega]
    have e := two_pow_two wd (by omega)
    have hp := pow_le8 wd hw
    have hs : sdg wd V = ((V % 2 ^ wd : Nat) : Int) - ((V % 2 ^ wd / 2 ^ (wd - 1) * 2 ^ wd : Nat) : Int) := by unfold sdg; rw [if_pos h]
    have hn : snx wd V = 2 ^ (wd - 1) * (V / 2 ^ wd + V % 2 ^ wd / 2 ^ (wd - 1)) := by unfold snx; rw [if_pos h]
    have hdm := Nat.div_add_mod V (2 ^ wd)
    have hml : V % 2 ^ wd < 2 ^ wd := Nat.mod_lt _ (Nat.pow_pos (by decide))
    have hP0 : 0 < 2 ^ (wd - 1) := Nat.pow_pos (by decide)
    have k1 := u32_mask x wd hxl hw
    rw [hm] at k1
    have k3 := w64_pow wd (2 ^ wd) rfl (Nat.lt_of_le_of_lt hp (by decide))
    have k4 := w64_pow (wd - 1) (2 ^ (wd - 1)) rfl (Nat.lt_of_le_of_lt (Nat.pow_le_pow_right (by decide) (show wd - 1 ≤ 8 by omega)) (by decide))
    have k2 := w64_nat (V % 2 ^ wd) (Nat.lt_of_lt_of_le hml (Nat.le_trans hp (by decide)))
    clear hx hx2 hxl hpar h hm
    generalize V % 2 ^ wd = r at *
    generalize V / 2 ^ wd = q at *
    generalize 2 ^ wd = P at *
    generalize 2 ^ (wd - 1) = Q at *
    subst e
    obtain ⟨T, hT⟩ : ∃ T, Q * q = T := ⟨_, rfl⟩
    have hV2 : V = 2 * T + r := by rw [← hdm, ← hT, Nat.mul_assoc]
    by_cases hq : Q ≤ r
    · have hr1 := div_one_of r Q hP0 hq hml
      rw [hr1] at hs hn
      obtain ⟨c1, c2, c3, c4, c5, c6⟩ := naf_core1 V T r Q hV2 hml hq hp
      refine ⟨2 * T + 2 * Q, (r : Int) - ((2 * Q : Nat) : Int), k1, k2, k3, k4, ?_, ?_, c2, c3, c4, naf_big V _ hV c5, Or.inl ⟨c6, w64_dif r (2 * Q) _ (Nat.lt_of_lt_of_le hml (Nat.le_trans hp (by decide))) (Nat.lt_of_le_of_lt hp (by decide)) rfl⟩⟩
      · rw [hs, Nat.one_mul]
      · rw [hn, Nat.mul_add, Nat.mul_one, hT, c1]
    · have hr1 : r / Q = 0 := Nat.div_eq_of_lt (Nat.lt_of_not_le hq)
      rw [hr1] at hs hn
      obtain ⟨c1, c2, c3, c4, c5, c6⟩ := naf_core2 V T r Q hV2 hml hq hp
      refine ⟨2 * T, (r : Int), k1, k2, k3, k4, ?_, ?_, c2, c3, c4, naf_big V _ hV c5, Or.inr ⟨c6, rfl⟩⟩
      · rw [hs, Nat.zero_mul]; rfl
      · rw [hn, Nat.add_zero, hT, c1]
theorem dg8z (n : Nat) (h : n < 115792089237316195423570985008687907853269984665640564039457584007913129639936) : dg n 8 = 0 := by
  unfold dg
  rw [Nat.div_eq_of_lt (by rw [show (4294967296 : Nat) ^ 8 = 115792089237316195423570985008687907853269984665640564039457584007913129639936 from by decide]; exact h)]
theorem copy9 (n : Nat) (h : n < 115792089237316195423570985008687907853269984665640564039457584007913129639936) : ((uC 9 fun _ => 0).toList.take 0 ++ ((dC n).toList ++ (uC 9 fun _ => 0).toList.drop (0 + (dC n).toList.length))).toArray = uC 9 (dg n) := by
  have h8 := dg8z n h
  simp [dC, uC, List.range_succ, h8]
theorem dC_len (n : Nat) : (dC n).toList.length = 8 := by simp [dC_size]
theorem dC_cells (n : Nat) (j : Nat) (v : Value) (h : (dC n).toList[j]? = some v) : (dC n)[j]? = some v := by simpa using h
theorem dC_ones (n : Nat) : ∀ v ∈ (dC n).toList, v.oneCell' = true := by intro v hv; have := dC_one n; rw [Array.all_eq_true'] at this; exact this v (by simpa using hv)
theorem u32Info1 : (Try.prog.info? 95).map (·.size) = some 1 := by kernel_rfl
attribute [local irreducible] vn dn dg uC dC
set_option maxHeartbeats 4000000 in
set_option maxRecDepth 100000 in
theorem Naf_r (m : Nat) (hm : m < 115792089237316195423570985008687907853269984665640564039457584007913129639936) (n wd : Nat) (hn : m % LN = n) (hl : n < 115792089237316195423570985008687907853269984665640564039457584007913129639936) (hw1 : 2 ≤ wd) (hw : wd ≤ 8) (w : World) :
    Calls Try.prog 52 #[fe (m : Int), .int .i64 (wd : Int)] w fun e w' => ∃ v, e = .returned (.tuple #[v, .int .i64 0]) ∧ Si w' v 256 (dn wd n) ∧ Chg w w' [] := by
  have i1 : ¬ (wd : Int) < 2 := by omega
  have i2 : ¬ (8 : Int) < (wd : Int) := by omega
  have F0 := Blk.new w (feC (m : Int)) 24
  have CC := (Chg.refl w []).alloc (.cells (feC (m : Int)) 24)
  go_enter Try.func52, Try.ntmps52
  go_wp2_with (refine wpList_load_row rfl 24 _ rfl w.heap.size rfl 24 _ (0, 0) _ F0 Try.underlying24 rfl feInfo ?_)
  refine (Value_r m hm _).mono ?_
  rintro e v1 ⟨rfl, k⟩
  rw [hn]
  replace CC := CC.trans1 k
  clear F0 k
  have FV := Blk.new v1 z8u 97
  have K2 : Chg w ((v1.alloc (.cells z8u 97)).setRow v1.heap.size (dC n)) [] := (CC.alloc _).setRowNew CC.size _
  go_upto_region 4 with (refine wpList_store_row rfl 97 _ _ rfl v1.heap.size (dC n) rfl rfl 97 _ FV (by rw [dC_size]; exact NumInfo) (by rw [dC_size]; try rfl) (dC_one _) ?_)
  replace FV := FV.setRow (dC n)
  try (change Code.wp _ _ _ _ ((v1.alloc (.cells z8u 97)).setRow v1.heap.size (dC n)))
  generalize (v1.alloc (.cells z8u 97)).setRow v1.heap.size (dC n) = v2 at *
  generalize v1.heap.size = g6 at *
  have MK := mk9 v2
  have B7 := Blk.new v2 (uC 9 fun _ => 0) 95
  have FV' := FV.alloc (.cells (uC 9 fun _ => 0) 95)
  have K7 : Chg w (v2.alloc (.cells (uC 9 fun _ => 0) 95)) [] := K2.alloc _
  have hg7 : w.heap.size ≤ v2.heap.size := K2.size
  have HC9 : Hid _ := copy9 n hl
  have H8 : Hid ((dC n).toList.length = Nat.min 8 9) := by show (dC n).toList.length = Nat.min 8 9; rw [dC_len]; rfl
  have H9 : Hid (0 + (dC n).toList.length ≤ (uC 9 fun _ => 0).size) := by show 0 + (dC n).toList.length ≤ (uC 9 fun _ => 0).size; rw [dC_len, uC_size]; decide
  go_wp2_with (refine wpList_copy_own rfl (.tmp 20) (.tmp 21) 99 99 rfl 95 Try.underlying99 u32Info1 v2.heap.size 0 9 9 ⟨g6, 0, none⟩ 8 8 rfl rfl (uC 9 fun _ => 0) 95 B7 (dC n).toList H8.out (fun j v hv => add_cell (by rw [Nat.zero_add, FV'.cell]; exact dC_cells n j v hv)) H9.out (dC_ones n) ?_; rw [HC9.out])
  replace B7 := B7.setRow (uC 9 (dg n))
  replace K7 := K7.setRowNew hg7 (uC 9 (dg n))
  generalize (v2.alloc (.cells (uC 9 fun _ => 0) 95)).setRow v2.heap.size (uC 9 (dg n)) = v3 at *
  generalize v2.heap.size = g7 at *
  have v0 : vn wd n 0 = n := by unfold vn; rfl
  rw [← v0] at B7
  have O0 := OwnI.nil v3 v3.heap.size (dn wd n)
  have hb3 : g7 < v3.heap.size := B7.lt
  have hw3 : w.heap.size ≤ v3.heap.size := K7.size
  obtain ⟨b3, eb3⟩ : ∃ b, v3.heap.size = b := ⟨_, rfl⟩
  rw [eb3] at O0 hb3 hw3
  have HB3 : Hid (v3.heap.size = b3) := eb3
  clear eb3
  go_loopw [8, 9] (fun tv ti wr => NR w n wd g7 b3 tv ti wr) (fun _ ti _ => (256 - intOf ti).toNat)
  case atStart => unfold NR; exact ⟨0, _, by decide, rfl, rfl, O0, Nat.le_of_eq HB3.out.symm, B7, K7⟩
  case round =>
    clear O0 B7 K7 CC FV FV' K2 MK HC9 H8 H9 hm hn v0
    obtain ⟨i, v, hi, rfl, rfl, OA, hbw, FB, KK⟩ := hrel
    have HGB : Hid (g7 < b3) := hb3
    have HWB : Hid (w.heap.size ≤ b3) := hw3
    have HBW : Hid (b3 ≤ wr.heap.size) := hbw
    have HG7 : Hid (w.heap.size ≤ g7) := hg7
    clear hb3 hw3 hbw HB3 hg7
    by_cases h : i < 256
    · have hI : (i : Int) < 256 := by omega
      have HM : Hid _ := m256 i h
      have HI1 : Hid (i + 1 ≤ 256) := by show i + 1 ≤ 256; omega
      have HC : Hid (i ≤ 1000) := by show i ≤ 1000; omega
      have cl : wr.cell? ⟨g7, 0, none⟩ = some (.int .u32 ((dg (vn wd n i) 0 : Nat) : Int)) := by rw [FB.cell, uC_get _ _ _ (by decide)]
      obtain ⟨x, hx⟩ : ∃ x, dg (vn wd n i) 0 = x := ⟨_, rfl⟩
      rw [hx] at cl
      have hrf := ref_naf wd (vn wd n i) x hw1 hw (vn_bd wd n hw (by omega) hl i) hx
      have HDN : Hid (dn wd n i = sdg wd (vn wd n i)) := dn_is wd n i
      have HVN : Hid (vn wd n (i + 1) = snx wd (vn wd n i)) := vn_is wd n i
      have HVB : Hid (vn wd n i < 497323236409786642155382248146820840100456150797347717440463976893159497012533375533056) := Nat.lt_trans (vn_bd wd n hw (by omega) hl i) (by decide)
      generalize vn wd n i = V at *
      clear hx h hi hl hw1 hw
      rcases hrf with ⟨e1, s1, s2⟩ | ⟨e1, r, P, Q, W, D, e2, e3, e4, e5, s1, s2, s3, s4, s5, s6, hcs⟩
      · have S1 : Hid (sdg wd V = 0) := s1
        have S2 : Hid (snx wd V = V / 2) := s2
        clear s1 s2
        have HG : Hid (dn wd n i = 0) := by show dn wd n i = 0; rw [HDN.out, S1.out]
        have K1 : Chg w (wr.alloc (.cells #[.int .i64 0] 3)) [] := KK.alloc _
        have NB := Blk.new wr #[.int .i64 0] 3
        have OA1 : OwnI (wr.alloc (.cells #[.int .i64 0] 3)) b3 v i (dn wd n) := OA.chg ((Chg.refl wr []).alloc _) (fun _ _ h => by simp at h)
        have FB1 := FB.alloc (.cells #[.int .i64 0] 3)
        have OB : Hid (∀ k ∈ ob v, b3 ≤ k) := fun k hk => (OA1.ob_ge k hk).1
        have HB4 : Hid (b3 ≤ (wr.alloc (.cells #[.int .i64 0] 3)).heap.size) := Nat.le_trans HBW.out (by simp)
        go_wp2_with (refine append_i rfl (.tmp 55) (.tmp 57) rfl b3 v wr.heap.size i (dn wd n) 0 rfl rfl OA1 NB HG.out HC.out HB4.out ?_; intro a1 w1 O1 q1)
        have FB2 := FB1.chg q1 (fun hx => Nat.not_lt.2 (OB.out _ hx) HGB.out)
        have K2 := K1.trans q1 (fun j hj => Or.inr (Nat.le_trans HWB.out (OB.out j hj)))
        refine (half9_s g7 V HVB.out w1 FB2).mono ?_
        rintro e w2 ⟨rfl, FB3, q2⟩
        go_wp2_with fail
        exact ⟨by unfold NR; exact ⟨i + 1, _, HI1.out, rfl, by go_num, O1.chg q2 (fun k hk => by simp; exact fun e => Nat.not_lt.2 (O1.ob_ge k hk).1 (by rw [e]; exact HGB.out)), Nat.le_trans (Nat.le_trans HB4.out q1.size) q2.size, FB3.to (by rw [HVN.out, S2.out]), K2.new q2 HG7.out⟩, HM.out⟩
      · have S1 : Hid (sdg wd V = D) := s1
        have S2 : Hid (snx wd V = W / 2) := s2.symm
        have S3 : Hid ((W : Int) = (V : Int) - D) := s3
        have S4 : Hid (-200 ≤ D) := s4
        have S5 : Hid (D ≤ 200) := s5
        have S6 : Hid (W < 497323236409786642155382248146820840100456150797347717440463976893159497012533375533056) := s6
        clear s1 s2 s3 s4 s5 s6
        rcases hcs with ⟨h1, e6⟩ | ⟨h1, rfl⟩
        · go_wp2_with fail
          refine (less9_s g7 V W D S3.out S4.out S5.out wr FB).mono ?_
          rintro e w0 ⟨rfl, FB', q0⟩
          replace FB := FB'
          replace OA := OA.chg q0 (fun k hk => by simp; exact fun e => Nat.not_lt.2 (OA.ob_ge k hk).1 (by rw [e]; exact HGB.out))
          replace KK := KK.new q0 HG7.out
          replace HBW : Hid (b3 ≤ w0.heap.size) := Nat.le_trans HBW.out q0.size
          clear q0 FB'
          have HG : Hid (dn wd n i = D) := by show dn wd n i = D; rw [HDN.out, S1.out]
          have K1 : Chg w (w0.alloc (.cells #[.int .i64 D] 3)) [] := KK.alloc _
          have NB := Blk.new w0 #[.int .i64 D] 3
          have OA1 : OwnI (w0.alloc (.cells #[.int .i64 D] 3)) b3 v i (dn wd n) := OA.chg ((Chg.refl w0 []).alloc _) (fun _ _ h => by simp at h)
          have FB1 := FB.alloc (.cells #[.int .i64 D] 3)
          have OB : Hid (∀ k ∈ ob v, b3 ≤ k) := fun k hk => (OA1.ob_ge k hk).1
          have HB4 : Hid (b3 ≤ (w0.alloc (.cells #[.int .i64 D] 3)).heap.size) := Nat.le_trans HBW.out (by simp)
          go_wp2_with (refine append_i rfl (.tmp 55) (.tmp 57) rfl b3 v w0.heap.size i (dn wd n) D rfl rfl OA1 NB HG.out HC.out HB4.out ?_; intro a1 w1 O1 q1)
          have FB2 := FB1.chg q1 (fun hx => Nat.not_lt.2 (OB.out _ hx) HGB.out)
          have K2 := K1.trans q1 (fun j hj => Or.inr (Nat.le_trans HWB.out (OB.out j hj)))
          refine (half9_s g7 W S6.out w1 FB2).mono ?_
          rintro e w2 ⟨rfl, FB3, q2⟩
          go_wp2_with fail
          exact ⟨by unfold NR; exact ⟨i + 1, _, HI1.out, rfl, by go_num, O1.chg q2 (fun k hk => by simp; exact fun e => Nat.not_lt.2 (O1.ob_ge k hk).1 (by rw [e]; exact HGB.out)), Nat.le_trans (Nat.le_trans HB4.out q1.size) q2.size, FB3.to (by rw [HVN.out, S2.out]), K2.new q2 HG7.out⟩, HM.out⟩
        · go_wp2_with fail
          refine (less9_s g7 V W (r : Int) S3.out S4.out S5.out wr FB).mono ?_
          rintro e w0 ⟨rfl, FB', q0⟩
          replace FB := FB'
          replace OA := OA.chg q0 (fun k hk => by simp; exact fun e => Nat.not_lt.2 (OA.ob_ge k hk).1 (by rw [e]; exact HGB.out))
          replace KK := KK.new q0 HG7.out
          replace HBW : Hid (b3 ≤ w0.heap.size) := Nat.le_trans HBW.out q0.size
          clear q0 FB'
          have HG : Hid (dn wd n i = (r : Int)) := by show dn wd n i = (r : Int); rw [HDN.out, S1.out]
          have K1 : Chg w (w0.alloc (.cells #[.int .i64 (r : Int)] 3)) [] := KK.alloc _
          have NB := Blk.new w0 #[.int .i64 (r : Int)] 3
          have OA1 : OwnI (w0.alloc (.cells #[.int .i64 (r : Int)] 3)) b3 v i (dn wd n) := OA.chg ((Chg.refl w0 []).alloc _) (fun _ _ h => by simp at h)
          have FB1 := FB.alloc (.cells #[.int .i64 (r : Int)] 3)
          have OB : Hid (∀ k ∈ ob v, b3 ≤ k) := fun k hk => (OA1.ob_ge k hk).1
          have HB4 : Hid (b3 ≤ (w0.alloc (.cells #[.int .i64 (r : Int)] 3)).heap.size) := Nat.le_trans HBW.out (by simp)
          go_wp2_with (refine append_i rfl (.tmp 55) (.tmp 57) rfl b3 v w0.heap.size i (dn wd n) (r : Int) rfl rfl OA1 NB HG.out HC.out HB4.out ?_; intro a1 w1 O1 q1)
          have FB2 := FB1.chg q1 (fun hx => Nat.not_lt.2 (OB.out _ hx) HGB.out)
          have K2 := K1.trans q1 (fun j hj => Or.inr (Nat.le_trans HWB.out (OB.out j hj)))
          refine (half9_s g7 W S6.out w1 FB2).mono ?_
          rintro e w2 ⟨rfl, FB3, q2⟩
          go_wp2_with fail
          exact ⟨by unfold NR; exact ⟨i + 1, _, HI1.out, rfl, by go_num, O1.chg q2 (fun k hk => by simp; exact fun e => Nat.not_lt.2 (O1.ob_ge k hk).1 (by rw [e]; exact HGB.out)), Nat.le_trans (Nat.le_trans HB4.out q1.size) q2.size, FB3.to (by rw [HVN.out, S2.out]), K2.new q2 HG7.out⟩, HM.out⟩
    · have hI : ¬ (i : Int) < 256 := by omega
      obtain rfl : i = 256 := by omega
      go_wp2_with fail
      go_ret2
      exact ⟨_, rfl, OA.si (by decide), KK⟩
end Go.Proofs.Ytcdgkhejbdlapaa
