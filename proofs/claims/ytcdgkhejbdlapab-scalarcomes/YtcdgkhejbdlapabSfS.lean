/- sum: two numbers of bytes. -/
import Derived.Test.YtcdgkhejbdlapabSfO
import Derived.Test.YtcdgkhejbdlapabPiece
set_option linter.unusedVariables false
set_option linter.unusedSimpArgs false
set_option linter.unnecessarySimpa false
namespace Go.Proofs.Ytcdgkhejbdlapab
open Go.RowKit N

theorem nb_cong (f g : Nat → Nat) : ∀ (j k : Nat), (∀ i, k ≤ i → i < k + j → f i = g i) → nb f k j = nb g k j
  | 0, k, _ => rfl
  | j + 1, k, h => by
    show f k + 256 * nb f (k + 1) j = g k + 256 * nb g (k + 1) j
    rw [h k (by omega) (by omega), nb_cong f g j (k + 1) (fun i h1 h2 => h i (by omega) (by omega))]
theorem nb_zero (f : Nat → Nat) : ∀ m k, (∀ j, k ≤ j → f j = 0) → nb f k m = 0
  | 0, _, _ => rfl
  | m + 1, k, h => by show f k + 256 * nb f (k + 1) m = 0; rw [h k (Nat.le_refl _), nb_zero f m (k + 1) (fun j hj => h j (by omega))]
/-- f's first n, then zeros. -/
def zx (f : Nat → Nat) (n : Nat) : Nat → Nat := fun i => if i < n then f i else 0
def cy (F G : Nat → Nat) : Nat → Nat
  | 0 => 0
  | i + 1 => (cy F G i + F i + G i) / 256
/-- The sum's bytes: M of them, and the carry. -/
def sm (F G : Nat → Nat) (M : Nat) : Nat → Nat := fun i => if i < M then (cy F G i + F i + G i) % 256 else cy F G M
theorem zx_lt {f : Nat → Nat} {n : Nat} (h : ∀ i, i < n → f i < 256) (i : Nat) : zx f n i < 256 := by
  unfold zx; split
  · exact h i (by assumption)
  · decide
theorem cy_le (F G : Nat → Nat) (hF : ∀ i, F i < 256) (hG : ∀ i, G i < 256) : ∀ i, cy F G i ≤ 1
  | 0 => by unfold cy; decide
  | i + 1 => by
    have h := cy_le F G hF hG i
    have h1 := hF i
    have h2 := hG i
    unfold cy
    omega
theorem sm_nb (F G : Nat → Nat) (M : Nat) : ∀ i, nb (fun j => (cy F G j + F j + G j) % 256) 0 i + 256 ^ i * cy F G i = nb F 0 i + nb G 0 i
  | 0 => by show 0 + 256 ^ 0 * 0 = 0 + 0; rfl
  | i + 1 => by
    have ih := sm_nb F G M i
    have e : cy F G (i + 1) = (cy F G i + F i + G i) / 256 := rfl
    have one : ∀ H : Nat → Nat, nb H 0 (i + 1) = nb H 0 i + 256 ^ i * H i := fun H => by
      rw [nb_add H i 0 1]
      show _ + 256 ^ i * (H (0 + i) + 256 * 0) = _
      rw [Nat.zero_add]; rfl
    rw [one, one, one, e, Nat.pow_succ]
    obtain ⟨S, hS⟩ : ∃ S, cy F G i + F i + G i = S := ⟨_, rfl⟩
    have h1 : 256 ^ i * (S % 256) + 256 ^ i * 256 * (S / 256) = 256 ^ i * S := by
      rw [Nat.mul_assoc, ← Nat.mul_add]
      congr 1
      omega
    have h2 : 256 ^ i * S = 256 ^ i * cy F G i + 256 ^ i * F i + 256 ^ i * G i := by rw [← hS, Nat.mul_add, Nat.mul_add]
    rw [hS]
    omega
theorem sm_val (F G : Nat → Nat) (M : Nat) : nb (sm F G M) 0 (M + 1) = nb F 0 M + nb G 0 M := by
  have h := sm_nb F G M M
  rw [nb_add _ M 0 1]
  have e1 : nb (sm F G M) 0 M = nb (fun j => (cy F G j + F j + G j) % 256) 0 M := nb_cong _ _ M 0 (fun i _ hi => by unfold sm; rw [if_pos (by omega)])
  have e2 : nb (sm F G M) (0 + M) 1 = cy F G M := by
    show sm F G M (0 + M) + 256 * 0 = _
    unfold sm
    rw [if_neg (by omega)]
    omega
  rw [e1, e2]
  exact h
theorem zx_nb (f : Nat → Nat) (n M : Nat) (h : n ≤ M) : nb (zx f n) 0 M = nb f 0 n := by
  obtain ⟨k, rfl⟩ : ∃ k, M = n + k := ⟨M - n, by omega⟩
  rw [nb_add, nb_cong (zx f n) f n 0 (fun i _ hi => by unfold zx; rw [if_pos (by omega)])]
  rw [nb_zero (zx f n) k (0 + n) (fun j hj => by unfold zx; rw [if_neg (by omega)])]
  simp
/-- What sum answers counts the sum. -/
theorem sum_val (f g : Nat → Nat) (n m : Nat) : nb (sm (zx f n) (zx g m) (max n m)) 0 (max n m + 1) = nb f 0 n + nb g 0 m := by
  rw [sm_val, zx_nb f n _ (Nat.le_max_left _ _), zx_nb g m _ (Nat.le_max_right _ _)]
theorem sm_step (F G : Nat → Nat) (M k d : Nat) (hk : k < M) (hd : (cy F G k + F k + G k) % 256 = d) : ∀ i, i < k + 1 → cat (sm F G M) k (fun _ => d) i = sm F G M i := by
  intro i hi
  unfold cat
  by_cases h : i < k
  · rw [if_pos h]
  · rw [if_neg h, show i = k by omega]
    unfold sm
    rw [if_pos hk, hd]
theorem sm_last (F G : Nat → Nat) (M d : Nat) (hd : cy F G M = d) : ∀ i, i < M + 1 → cat (sm F G M) M (fun _ => d) i = sm F G M i := by
  intro i hi
  unfold cat
  by_cases h : i < M
  · rw [if_pos h]
  · rw [if_neg h, show i = M by omega]
    unfold sm
    rw [if_neg (by omega), hd]
theorem w64_add (a b : Nat) (h : a + b ≤ 1000) : wrap64 ((a : Int) + (b : Int)) = ((a + b : Nat) : Int) := by unfold wrap64; omega
theorem w8_nat (s : Nat) : IntKind.u8.wrap (s : Int) = ((s % 256 : Nat) : Int) := by rw [IntKind.wrap_u8']; omega
theorem d256 (s : Nat) : (s : Int) / 256 = ((s / 256 : Nat) : Int) := by omega
theorem sl_form {w : World} {v : Value} {n : Nat} {f : Nat → Nat} (h : Sl w v n f) : ∃ p c, v = .slice p n c ∧ (∀ i, i < n → f i < 256) ∧ ∀ i, i < n → ∃ g o, p = some ⟨g, o, none⟩ ∧ n ≤ c ∧ c ≤ 9223372036854775807 ∧ Bs w g o n f := by
  rcases h with ⟨rfl, rfl⟩ | ⟨g, o, cap, rfl, h1, h2, hb⟩
  · exact ⟨none, 0, rfl, fun i hi => by omega, fun i hi => by omega⟩
  · exact ⟨_, cap, rfl, hb.bd, fun i hi => ⟨g, o, rfl, h1, h2, hb⟩⟩
/-- The loop's relation. -/
def SR (w : World) (n m : Nat) (f g : Nat → Nat) (M : Nat) (tv tc ti : Value) (wr : World) : Prop :=
  ∃ (i : Nat) (v : Value), i ≤ M ∧ v = tv ∧ tc = .int .i64 ((cy (zx f n) (zx g m) i : Nat) : Int) ∧ ti = .int .i64 (i : Int) ∧ Own wr w.heap.size v i (sm (zx f n) (zx g m) M) ∧ Chg w wr []
theorem cy_succ (F G : Nat → Nat) (i : Nat) : cy F G (i + 1) = (cy F G i + F i + G i) / 256 := rfl
theorem cy_0 (F G : Nat → Nat) : cy F G 0 = 0 := rfl
attribute [local irreducible] cat sm cy zx
set_option maxHeartbeats 4000000 in
set_option maxRecDepth 100000 in
theorem sum_s (va vb : Value) (n m : Nat) (f g : Nat → Nat) (hn : n ≤ 140737488355328) (hm : m ≤ 140737488355328) (w : World) (ha : Sl w va n f) (hb : Sl w vb m g) :
    Calls Try.prog 21 #[va, vb] w fun e w' => ∃ v, e = .returned v ∧ Own w' w.heap.size v (max n m + 1) (sm (zx f n) (zx g m) (max n m)) ∧ Chg w w' [] := by
  obtain ⟨M, hM⟩ : ∃ M, max n m = M := ⟨_, rfl⟩
  have hM1 : n ≤ M := by omega
  have hM2 : m ≤ M := by omega
  have hM3 : M ≤ 140737488355328 := by omega
  have HM : Hid (∀ i, ¬ i < n → ¬ i < m → i ≤ M → i = M) := fun i h1 h2 h3 => by omega
  rw [hM]
  clear hM
  have HZ1 : Hid (∀ i, i < n → zx f n i = f i) := fun i hi => by unfold zx; rw [if_pos hi]
  have HZ2 : Hid (∀ i, ¬ i < n → zx f n i = 0) := fun i hi => by unfold zx; rw [if_neg hi]
  have HY1 : Hid (∀ i, i < m → zx g m i = g i) := fun i hi => by unfold zx; rw [if_pos hi]
  have HY2 : Hid (∀ i, ¬ i < m → zx g m i = 0) := fun i hi => by unfold zx; rw [if_neg hi]
  obtain ⟨pa, ca, rfl, fb, _⟩ := sl_form ha
  obtain ⟨pb, cb, rfl, gb, _⟩ := sl_form hb
  have HC : Hid (∀ i, cy (zx f n) (zx g m) i ≤ 1) := cy_le _ _ (zx_lt fb) (zx_lt gb)
  have HS : Hid (∀ i, cy (zx f n) (zx g m) (i + 1) = (cy (zx f n) (zx g m) i + zx f n i + zx g m i) / 256) := fun i => cy_succ _ _ i
  have O0 := Own.nil w w.heap.size (sm (zx f n) (zx g m) M)
  have h0 := cy_0 (zx f n) (zx g m)
  go_enter Try.func21, Try.ntmps21
  go_wp2_with fail
  go_loopw [5, 6, 7] (fun tv tc ti wr => SR w n m f g M tv tc ti wr) (fun _ _ ti _ => (M - intOf ti).toNat)
  case atStart => unfold SR; exact ⟨0, _, Nat.zero_le _, rfl, by rw [h0]; rfl, rfl, O0, Chg.refl w _⟩
  case round =>
    clear O0 h0
    obtain ⟨i, v, hi, rfl, rfl, rfl, OA, CC⟩ := hrel
    obtain ⟨c, hc⟩ : ∃ c, cy (zx f n) (zx g m) i = c := ⟨_, rfl⟩
    have hc1 := HC.out i
    rw [hc] at hc1
    have hc2 := HS.out i
    rw [hc] at hc2
    rw [hc]
    by_cases h1 : i < n
    · by_cases h2 : i < m
      · skip
        obtain ⟨_, _, e0a, _, hpa⟩ := sl_form (ha.chg CC (Off.nil _))
        obtain ⟨rfl, rfl⟩ : pa = _ ∧ ca = _ := by simpa using e0a
        obtain ⟨g1, o1, rfl, hn1a, hn2a, B1⟩ := hpa i h1
        have ca := B1.cell i h1
        have ba := B1.bd i h1
        obtain ⟨x, hxa⟩ : ∃ x, f i = x := ⟨_, rfl⟩
        rw [hxa] at ca ba
        have zf := HZ1.out i h1
        rw [hxa] at zf
        have hIa : (i : Int) < (n : Int) := by omega
        clear e0a hpa B1 hxa
        obtain ⟨_, _, e0b, _, hpb⟩ := sl_form (hb.chg CC (Off.nil _))
        obtain ⟨rfl, rfl⟩ : pb = _ ∧ cb = _ := by simpa using e0b
        obtain ⟨g2, o2, rfl, hn1b, hn2b, B2⟩ := hpb i h2
        have cb := B2.cell i h2
        have bb := B2.bd i h2
        obtain ⟨y, hxb⟩ : ∃ y, g i = y := ⟨_, rfl⟩
        rw [hxb] at cb bb
        have zg := HY1.out i h2
        rw [hxb] at zg
        have hIb : (i : Int) < (m : Int) := by omega
        clear e0b hpb B2 hxb
        obtain ⟨s, hs⟩ : ∃ s, c + x + y = s := ⟨_, rfl⟩
        obtain ⟨d, hd⟩ : ∃ d, s % 256 = d := ⟨_, rfl⟩
        obtain ⟨q, hq⟩ : ∃ q, s / 256 = q := ⟨_, rfl⟩
        have w8 : IntKind.u8.wrap (s : Int) = (d : Int) := by rw [w8_nat, hd]
        have wq : (s : Int) / 256 = (q : Int) := by rw [d256, hq]
        have hd2 : d < 256 := by omega
        have w1 := w64_add c x (by omega)
        obtain ⟨s1, hs1⟩ : ∃ s1, c + x = s1 := ⟨_, rfl⟩
        rw [hs1] at w1
        have w2 : wrap64 ((s1 : Int) + (y : Int)) = (s : Int) := by rw [w64_add s1 y (by omega), hs1.symm, hs]
        have HT : Hid (∀ j, j < i + 1 → cat (sm (zx f n) (zx g m) M) i (fun _ => d) j = sm (zx f n) (zx g m) M j) := sm_step _ _ M i d (by omega) (by rw [hc, zf, zg, hs, hd])
        have HQ : Hid (cy (zx f n) (zx g m) (i + 1) = q) := by show cy (zx f n) (zx g m) (i + 1) = q; rw [hc2, zf, zg, hs, hq]
        have K1 : Chg w (wr.alloc (.cells #[.int .u8 (d : Int)] 5)) [] := CC.alloc _
        have OA1 : Own (wr.alloc (.cells #[.int .u8 (d : Int)] 5)) w.heap.size v i (sm (zx f n) (zx g m) M) := OA.chg ((Chg.refl wr []).alloc _) (fun j _ hx => by simp at hx)
        have S1 : Sl (wr.alloc (.cells #[.int .u8 (d : Int)] 5)) (.slice (some ⟨wr.heap.size, 0, none⟩) 1 1) 1 (fun _ => d) := one_sl wr d hd2
        have hi1 : i + 1 ≤ M := by omega
        have hi2 : i + 1 ≤ 211106232532992 := by omega
        have MM : Hid ((M - intOf (.int .i64 ((i : Int) + 1))).toNat < (M - intOf (.int .i64 (i : Int))).toNat) := by show (M - intOf (.int .i64 ((i : Int) + 1))).toNat < (M - intOf (.int .i64 (i : Int))).toNat; simp [intOf]; omega
        clear hc hc1 hc2 hs hd hq hd2 zf zg fb gb hM1 hM2 hM3 hn hm hi h1 h2 HZ1 HZ2 HY1 HY2 HM HC HS
        go_wp2_with (refine append_y rfl (.tmp 42) (.tmp 45) rfl w.heap.size v (.slice (some ⟨wr.heap.size, 0, none⟩) 1 1) i 1 (sm (zx f n) (zx g m) M) (fun _ => d) rfl rfl OA1 S1 hi2 K1.size ?_; intro a1 w1 O1 q1; replace O1 := O1.cong HT.out; replace q1 := K1.trans q1 (fun j hj => Or.inr (OA1.ob_ge j hj).1))
        exact ⟨by unfold SR; exact ⟨i + 1, _, hi1, rfl, by rw [HQ.out], by go_num, O1, q1⟩, MM.out⟩
      · skip
        obtain ⟨_, _, e0a, _, hpa⟩ := sl_form (ha.chg CC (Off.nil _))
        obtain ⟨rfl, rfl⟩ : pa = _ ∧ ca = _ := by simpa using e0a
        obtain ⟨g1, o1, rfl, hn1a, hn2a, B1⟩ := hpa i h1
        have ca := B1.cell i h1
        have ba := B1.bd i h1
        obtain ⟨x, hxa⟩ : ∃ x, f i = x := ⟨_, rfl⟩
        rw [hxa] at ca ba
        have zf := HZ1.out i h1
        rw [hxa] at zf
        have hIa : (i : Int) < (n : Int) := by omega
        clear e0a hpa B1 hxa
        obtain ⟨y, hxb⟩ : ∃ y : Nat, y = 0 := ⟨0, rfl⟩
        have zg := HY2.out i h2
        rw [← hxb] at zg
        have hIb : ¬ (i : Int) < (m : Int) := by omega
        obtain ⟨s, hs⟩ : ∃ s, c + x + y = s := ⟨_, rfl⟩
        obtain ⟨d, hd⟩ : ∃ d, s % 256 = d := ⟨_, rfl⟩
        obtain ⟨q, hq⟩ : ∃ q, s / 256 = q := ⟨_, rfl⟩
        have w8 : IntKind.u8.wrap (s : Int) = (d : Int) := by rw [w8_nat, hd]
        have wq : (s : Int) / 256 = (q : Int) := by rw [d256, hq]
        have hd2 : d < 256 := by omega
        have w1 : wrap64 ((c : Int) + (x : Int)) = (s : Int) := by rw [w64_add c x (by omega), ← hs, hxb, Nat.add_zero]
        have HT : Hid (∀ j, j < i + 1 → cat (sm (zx f n) (zx g m) M) i (fun _ => d) j = sm (zx f n) (zx g m) M j) := sm_step _ _ M i d (by omega) (by rw [hc, zf, zg, hs, hd])
        have HQ : Hid (cy (zx f n) (zx g m) (i + 1) = q) := by show cy (zx f n) (zx g m) (i + 1) = q; rw [hc2, zf, zg, hs, hq]
        have K1 : Chg w (wr.alloc (.cells #[.int .u8 (d : Int)] 5)) [] := CC.alloc _
        have OA1 : Own (wr.alloc (.cells #[.int .u8 (d : Int)] 5)) w.heap.size v i (sm (zx f n) (zx g m) M) := OA.chg ((Chg.refl wr []).alloc _) (fun j _ hx => by simp at hx)
        have S1 : Sl (wr.alloc (.cells #[.int .u8 (d : Int)] 5)) (.slice (some ⟨wr.heap.size, 0, none⟩) 1 1) 1 (fun _ => d) := one_sl wr d hd2
        have hi1 : i + 1 ≤ M := by omega
        have hi2 : i + 1 ≤ 211106232532992 := by omega
        have MM : Hid ((M - intOf (.int .i64 ((i : Int) + 1))).toNat < (M - intOf (.int .i64 (i : Int))).toNat) := by show (M - intOf (.int .i64 ((i : Int) + 1))).toNat < (M - intOf (.int .i64 (i : Int))).toNat; simp [intOf]; omega
        clear hc hc1 hc2 hs hd hq hd2 zf zg fb gb hM1 hM2 hM3 hn hm hi h1 h2 HZ1 HZ2 HY1 HY2 HM HC HS
        go_wp2_with (refine append_y rfl (.tmp 42) (.tmp 45) rfl w.heap.size v (.slice (some ⟨wr.heap.size, 0, none⟩) 1 1) i 1 (sm (zx f n) (zx g m) M) (fun _ => d) rfl rfl OA1 S1 hi2 K1.size ?_; intro a1 w1 O1 q1; replace O1 := O1.cong HT.out; replace q1 := K1.trans q1 (fun j hj => Or.inr (OA1.ob_ge j hj).1))
        exact ⟨by unfold SR; exact ⟨i + 1, _, hi1, rfl, by rw [HQ.out], by go_num, O1, q1⟩, MM.out⟩
    · by_cases h2 : i < m
      · skip
        obtain ⟨x, hxa⟩ : ∃ x : Nat, x = 0 := ⟨0, rfl⟩
        have zf := HZ2.out i h1
        rw [← hxa] at zf
        have hIa : ¬ (i : Int) < (n : Int) := by omega
        obtain ⟨_, _, e0b, _, hpb⟩ := sl_form (hb.chg CC (Off.nil _))
        obtain ⟨rfl, rfl⟩ : pb = _ ∧ cb = _ := by simpa using e0b
        obtain ⟨g2, o2, rfl, hn1b, hn2b, B2⟩ := hpb i h2
        have cb := B2.cell i h2
        have bb := B2.bd i h2
        obtain ⟨y, hxb⟩ : ∃ y, g i = y := ⟨_, rfl⟩
        rw [hxb] at cb bb
        have zg := HY1.out i h2
        rw [hxb] at zg
        have hIb : (i : Int) < (m : Int) := by omega
        clear e0b hpb B2 hxb
        obtain ⟨s, hs⟩ : ∃ s, c + x + y = s := ⟨_, rfl⟩
        obtain ⟨d, hd⟩ : ∃ d, s % 256 = d := ⟨_, rfl⟩
        obtain ⟨q, hq⟩ : ∃ q, s / 256 = q := ⟨_, rfl⟩
        have w8 : IntKind.u8.wrap (s : Int) = (d : Int) := by rw [w8_nat, hd]
        have wq : (s : Int) / 256 = (q : Int) := by rw [d256, hq]
        have hd2 : d < 256 := by omega
        have w1 : wrap64 ((c : Int) + (y : Int)) = (s : Int) := by rw [w64_add c y (by omega), ← hs, hxa, Nat.add_zero]
        have HT : Hid (∀ j, j < i + 1 → cat (sm (zx f n) (zx g m) M) i (fun _ => d) j = sm (zx f n) (zx g m) M j) := sm_step _ _ M i d (by omega) (by rw [hc, zf, zg, hs, hd])
        have HQ : Hid (cy (zx f n) (zx g m) (i + 1) = q) := by show cy (zx f n) (zx g m) (i + 1) = q; rw [hc2, zf, zg, hs, hq]
        have K1 : Chg w (wr.alloc (.cells #[.int .u8 (d : Int)] 5)) [] := CC.alloc _
        have OA1 : Own (wr.alloc (.cells #[.int .u8 (d : Int)] 5)) w.heap.size v i (sm (zx f n) (zx g m) M) := OA.chg ((Chg.refl wr []).alloc _) (fun j _ hx => by simp at hx)
        have S1 : Sl (wr.alloc (.cells #[.int .u8 (d : Int)] 5)) (.slice (some ⟨wr.heap.size, 0, none⟩) 1 1) 1 (fun _ => d) := one_sl wr d hd2
        have hi1 : i + 1 ≤ M := by omega
        have hi2 : i + 1 ≤ 211106232532992 := by omega
        have MM : Hid ((M - intOf (.int .i64 ((i : Int) + 1))).toNat < (M - intOf (.int .i64 (i : Int))).toNat) := by show (M - intOf (.int .i64 ((i : Int) + 1))).toNat < (M - intOf (.int .i64 (i : Int))).toNat; simp [intOf]; omega
        clear hc hc1 hc2 hs hd hq hd2 zf zg fb gb hM1 hM2 hM3 hn hm hi h1 h2 HZ1 HZ2 HY1 HY2 HM HC HS
        go_wp2_with (refine append_y rfl (.tmp 42) (.tmp 45) rfl w.heap.size v (.slice (some ⟨wr.heap.size, 0, none⟩) 1 1) i 1 (sm (zx f n) (zx g m) M) (fun _ => d) rfl rfl OA1 S1 hi2 K1.size ?_; intro a1 w1 O1 q1; replace O1 := O1.cong HT.out; replace q1 := K1.trans q1 (fun j hj => Or.inr (OA1.ob_ge j hj).1))
        exact ⟨by unfold SR; exact ⟨i + 1, _, hi1, rfl, by rw [HQ.out], by go_num, O1, q1⟩, MM.out⟩
      · have hI1 : ¬ (i : Int) < (n : Int) := by omega
        have hI2 : ¬ (i : Int) < (m : Int) := by omega
        have hiM := HM.out i h1 h2 hi
        subst hiM
        have w8 : IntKind.u8.wrap (c : Int) = (c : Int) := by rw [w8_nat, Nat.mod_eq_of_lt (by omega)]
        have HT : Hid (∀ j, j < i + 1 → cat (sm (zx f n) (zx g m) i) i (fun _ => c) j = sm (zx f n) (zx g m) i j) := sm_last _ _ i c hc
        have K1 : Chg w (wr.alloc (.cells #[.int .u8 (c : Int)] 5)) [] := CC.alloc _
        have OA1 : Own (wr.alloc (.cells #[.int .u8 (c : Int)] 5)) w.heap.size v i (sm (zx f n) (zx g m) i) := OA.chg ((Chg.refl wr []).alloc _) (fun j _ hx => by simp at hx)
        have S1 : Sl (wr.alloc (.cells #[.int .u8 (c : Int)] 5)) (.slice (some ⟨wr.heap.size, 0, none⟩) 1 1) 1 (fun _ => c) := one_sl wr c (by omega)
        have hi2 : i + 1 ≤ 211106232532992 := by omega
        clear hc hc1 hc2 fb gb hM1 hM2 hM3 hn hm hi h1 h2 HZ1 HZ2 HY1 HY2 HM HC HS
        go_wp2_with (refine append_y rfl (.tmp 49) (.tmp 52) rfl w.heap.size v (.slice (some ⟨wr.heap.size, 0, none⟩) 1 1) i 1 (sm (zx f n) (zx g m) i) (fun _ => c) rfl rfl OA1 S1 hi2 K1.size ?_; intro a1 w1 O1 q1; replace O1 := O1.cong HT.out; replace q1 := K1.trans q1 (fun j hj => Or.inr (OA1.ob_ge j hj).1))
        go_ret
        exact ⟨a1, rfl, O1, q1⟩
end Go.Proofs.Ytcdgkhejbdlapab
