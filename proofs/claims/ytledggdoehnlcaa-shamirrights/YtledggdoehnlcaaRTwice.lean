/- rimeref02.twice, below, minus. -/
import Derived.Test.YtledggdoehnlcaaRNum
set_option linter.unusedVariables false
set_option linter.unusedSimpArgs false
set_option linter.unnecessarySimpa false
namespace Go.Proofs.Ytledggdoehnlcaa
open Go.RowKit N

/-- Eight numbers 0. -/
def z8u : Array Value := #[.int .u32 0, .int .u32 0, .int .u32 0, .int .u32 0, .int .u32 0, .int .u32 0, .int .u32 0, .int .u32 0]
theorem z8u_dC : z8u = dC 0 := by kernel_rfl
theorem NumInfo : (Try.prog.info? 67).map (·.size) = some 8 := by kernel_rfl
theorem dC_size (n : Nat) : (dC n).size = 8 := uC_size 8 _
theorem dC_one (n : Nat) : (dC n).all (·.oneCell') = true := uC_one 8 _
theorem or1 (x c : Nat) (hx : x < 4294967296) (hc : c < 2) : bits .or .u32 (((x : Nat) : Int) * 2 % 4294967296) ((c : Nat) : Int) = ((2 * x % 4294967296 + c : Nat) : Int) := by
  have e : ((x : Nat) : Int) * 2 % 4294967296 = ((2 * x % 4294967296 : Nat) : Int) := by omega
  rw [e, u32_or_nat (2 * x % 4294967296) c (by omega) (by omega), nat_join 1 (2 * x % 4294967296) c (by omega) (by omega)]
/-- The first i digits are m's, the others n's. -/
def mix (m n i : Nat) : Nat → Nat := fun j => if j < i then dg m j else dg n j
theorem mix_zero (m n : Nat) : uC 8 (mix m n 0) = dC n := uC_congr 8 _ _ (fun j _ => if_neg (by omega))
theorem mix_all (m n : Nat) : uC 8 (mix m n 8) = dC m := uC_congr 8 _ _ (fun j hj => if_pos hj)
theorem mix_at (m n i : Nat) : mix m n i i = dg n i := if_neg (by omega)
theorem mix_step (m n i : Nat) : upd (mix m n i) i (dg m i) = mix m n (i + 1) := by
  funext j
  unfold upd mix
  by_cases h : j = i
  · subst h; rw [if_pos rfl, if_pos (by omega)]
  · rw [if_neg h]
    by_cases h2 : j < i
    · rw [if_pos h2, if_pos (by omega)]
    · rw [if_neg h2, if_neg (by omega)]

set_option maxHeartbeats 4000000 in
set_option maxRecDepth 100000 in
theorem twice_r (n b : Nat) (hb : b < 2) (w : World) :
    Calls Try.prog 53 #[.agg (dC n), .int .u32 ((b : Nat) : Int)] w fun e w' => e = .returned (.agg (dC (2 * n + b))) ∧ Chg w w' [] := by
  have B0 : Blk ((w.alloc (.cells (dC n) 67)).alloc (.cells z8u 67)) w.heap.size (dC n) 67 := (Blk.new w (dC n) 67).alloc _
  have B1 : Blk ((w.alloc (.cells (dC n) 67)).alloc (.cells z8u 67)) (w.heap.size + 1) z8u 67 := by have h := Blk.new (w.alloc (.cells (dC n) 67)) z8u 67; simpa using h
  have C0 : Chg w ((w.alloc (.cells (dC n) 67)).alloc (.cells z8u 67)) [] := ((Chg.refl w []).alloc _).alloc _
  rw [← mix_zero (2 * n + b) n] at B0
  obtain ⟨m, hm⟩ : ∃ m, m = 2 * n + b := ⟨_, rfl⟩
  have HD : Hid (∀ i, dg m i = 2 * dg n i % 4294967296 + cy2 n b i) := show ∀ i, dg m i = 2 * dg n i % 4294967296 + cy2 n b i from fun i => by rw [hm]; exact dg_twice n b i hb
  rw [← hm] at B0 ⊢
  clear hm
  go_enter Try.func53, Try.ntmps53
  go_wp2_with fail
  go_loopw [5, 1] (fun t c wr => ∃ i : Nat, i ≤ 8 ∧ t = .int .i64 (i : Int) ∧ c = .int .u32 ((cy2 n b i : Nat) : Int) ∧ Blk wr w.heap.size (uC 8 (mix m n i)) 67 ∧ Blk wr (w.heap.size + 1) z8u 67 ∧ Chg w wr []) (fun t _ _ => (8 - intOf t).toNat)
  case atStart => exact ⟨0, by omega, rfl, rfl, B0, B1, C0⟩
  case round =>
    obtain ⟨i, hi, rfl, rfl, b0, b1, c0⟩ := hrel
    clear B0 B1 C0
    by_cases h8 : i < 8
    · have hI : (i : Int) < 8 := by omega
      have ho := or1 (dg n i) (cy2 n b i) (dg_lt n i) (cy2_lt n b i hb)
      rw [← HD.out i] at ho
      have cA := (b0.cell i).trans ((uC_get 8 (mix m n i) i h8).trans (by rw [mix_at]))
      have fA := b0.frozen i
      have bn : Blk (wr.setCell ⟨w.heap.size, i, none⟩ (.int .u32 ((dg m i : Nat) : Int))) w.heap.size (uC 8 (mix m n (i + 1))) 67 := (b0.setCell i _).to (by rw [uC_set, mix_step])
      have b1n := b1.setOther (show ¬ w.heap.size + 1 = w.heap.size by omega) i (.int .u32 ((dg m i : Nat) : Int))
      have cn := c0.setNew (show w.heap.size ≤ w.heap.size by omega) i (.int .u32 ((dg m i : Nat) : Int))
      have hc : Hid (((dg n i : Nat) : Int) / 2147483648 = ((cy2 n b (i + 1) : Nat) : Int)) := by show ((dg n i : Nat) : Int) / 2147483648 = ((cy2 n b (i + 1) : Nat) : Int); rw [cy2_succ]; omega
      clear b0 b1 c0 HD
      go_wp2_with fail
      exact ⟨⟨i + 1, by omega, by go_num, by rw [hc.out], bn, b1n, cn⟩, by simp [intOf]; omega⟩
    · have h9 : i = 8 := by omega
      subst h9
      rw [mix_all] at b0
      go_wp2_with (first | (refine wpList_load_row rfl 67 _ rfl w.heap.size rfl 67 _ (0, 0) _ b0 Try.underlying67 rfl NumInfo ?_) | (refine wpList_store_row rfl 67 _ _ rfl (w.heap.size + 1) _ rfl rfl 67 _ b1 NumInfo rfl (dC_one _) ?_))
      exact bodyPost_ret (results_cell_row Try.results53 _ _ (w.heap.size + 1) 67 (dC m) (0, 0) _ rfl (Blk.setRow b1 _) Try.underlying67 rfl NumInfo) rfl ⟨rfl, c0.setRowNew (by omega) _⟩

/-! ### below -/
set_option maxHeartbeats 4000000 in
set_option maxRecDepth 100000 in
theorem below_r (n m : Nat) (hn : n < 115792089237316195423570985008687907853269984665640564039457584007913129639936) (hm : m < 115792089237316195423570985008687907853269984665640564039457584007913129639936) (w : World) :
    Calls Try.prog 54 #[.agg (dC n), .agg (dC m)] w fun e w' => e = .returned (.bool (decide (n < m))) ∧ Chg w w' [] := by
  have B0 : Blk ((w.alloc (.cells (dC n) 67)).alloc (.cells (dC m) 67)) w.heap.size (dC n) 67 := (Blk.new w (dC n) 67).alloc _
  have B1 : Blk ((w.alloc (.cells (dC n) 67)).alloc (.cells (dC m) 67)) (w.heap.size + 1) (dC m) 67 := by have h := Blk.new (w.alloc (.cells (dC n) 67)) (dC m) 67; simpa using h
  have C0 : Chg w ((w.alloc (.cells (dC n) 67)).alloc (.cells (dC m) 67)) [] := ((Chg.refl w []).alloc _).alloc _
  have en := nv_dg8 n hn
  have em := nv_dg8 m hm
  have HE : Hid (nv (dg n) 0 8 = n ∧ nv (dg m) 0 8 = m) := ⟨en, em⟩
  clear en em
  go_enter Try.func54, Try.ntmps54
  go_wp2_with fail
  go_loopw [5] (fun t wr => ∃ k : Nat, k ≤ 8 ∧ t = .int .i64 ((k : Int) - 1) ∧ Blk wr w.heap.size (dC n) 67 ∧ Blk wr (w.heap.size + 1) (dC m) 67 ∧ Chg w wr [] ∧ Hid (∀ j, k ≤ j → j < 8 → dg n j = dg m j)) (fun t _ => (intOf t + 1).toNat)
  case atStart => exact ⟨8, by omega, rfl, B0, B1, C0, show ∀ j, 8 ≤ j → j < 8 → dg n j = dg m j from fun j h1 h2 => by omega⟩
  case round =>
    obtain ⟨k, hk, rfl, b0, b1, c0, hq⟩ := hrel
    clear B0 B1 C0
    by_cases hk0 : k = 0
    · subst hk0
      have e : n = m := by
        rw [← HE.out.1, ← HE.out.2]
        exact nv_congr _ _ 8 0 (fun i _ h => hq.out i (by omega) (by omega))
      have hd : Hid (decide (n < m) = false) := by show decide (n < m) = false; rw [e]; simp
      have hneg : ¬ (0 : Int) ≤ ((0 : Nat) : Int) - 1 := by omega
      clear e hq
      go_wp2_with fail
      go_ret
      exact ⟨by rw [hd.out]; rfl, c0⟩
    · obtain ⟨i, rfl⟩ : ∃ i, k = i + 1 := ⟨k - 1, by omega⟩
      have e1 : (((i + 1 : Nat) : Int) - 1) = (i : Int) := by omega
      rw [e1]
      clear e1 hk0
      have h8 : i < 8 := by omega
      have hI : (i : Int) < 8 := by omega
      have hI0 : (0 : Int) ≤ (i : Int) := by omega
      have cA := (b0.cell i).trans (uC_get 8 (dg n) i h8)
      have cB := (b1.cell i).trans (uC_get 8 (dg m) i h8)
      by_cases hE : dg n i = dg m i
      · have hb : (((dg n i : Nat) : Int) != ((dg m i : Nat) : Int)) = false := by rw [hE]; simp
        have hq' : Hid (∀ j, i ≤ j → j < 8 → dg n j = dg m j) := show ∀ j, i ≤ j → j < 8 → dg n j = dg m j from fun j h1 h2 => by
          by_cases e : j = i
          · rw [e]; exact hE
          · exact hq.out j (by omega) h2
        clear hE hq
        go_wp2_with fail
        go_region
        go_wp2_with fail
        exact ⟨⟨i, by omega, by go_num, b0, b1, c0.drew, hq'⟩, by simp [intOf]⟩
      · have hb : (((dg n i : Nat) : Int) != ((dg m i : Nat) : Int)) = true := by simp; omega
        have hd : decide (dg n i < dg m i) = decide (n < m) := by
          by_cases hl : dg n i < dg m i
          · have h := lex_lt (dg m) (dg n) i h8 (fun j _ => dg_lt n j) hl (fun j h1 h2 => (hq.out j (by omega) h2).symm)
            rw [HE.out.1, HE.out.2] at h
            rw [decide_eq_true h, decide_eq_true hl]
          · have h := lex_lt (dg n) (dg m) i h8 (fun j _ => dg_lt m j) (by omega) (fun j h1 h2 => hq.out j (by omega) h2)
            rw [HE.out.1, HE.out.2] at h
            rw [decide_eq_false (show ¬ n < m by omega), decide_eq_false hl]
        have HD : Hid (decide (dg n i < dg m i) = decide (n < m)) := hd
        clear hE hq hd
        go_wp2_with fail
        go_region
        go_wp2_with fail
        go_region
        go_wp2_with fail
        go_ret
        exact ⟨by rw [← HD.out]; rfl, c0.drew.drew⟩

/-! ### minus -/
/-- What is borrowed from place i of n - m. -/
def bw (n m i : Nat) : Nat := if n % 4294967296 ^ i < m % 4294967296 ^ i then 1 else 0
theorem bw_le (n m i : Nat) : bw n m i ≤ 1 := by unfold bw; split <;> omega
theorem bw_zero (n m : Nat) : bw n m 0 = 0 := by unfold bw; simp [Nat.mod_one]
theorem bw_succ (n m i : Nat) : bw n m (i + 1) = if dg n i < dg m i + bw n m i then 1 else 0 := by
  unfold bw dg
  rw [Nat.pow_succ, Nat.mod_mul, Nat.mod_mul]
  have hP : 0 < 4294967296 ^ i := Nat.pow_pos (by decide)
  have hr := Nat.mod_lt n hP
  have hs := Nat.mod_lt m hP
  generalize 4294967296 ^ i = P at *
  generalize n % P = r at *
  generalize m % P = s at *
  generalize n / P % 4294967296 = x at *
  generalize m / P % 4294967296 = y at *
  rcases Nat.lt_trichotomy x y with h | h | h
  · have hm : P * (x + 1) ≤ P * y := Nat.mul_le_mul_left _ h
    rw [Nat.mul_add, Nat.mul_one] at hm
    rw [if_pos (by omega), if_pos (by omega)]
  · subst h
    split <;> split <;> (try rfl) <;> split at * <;> omega
  · have hm : P * (y + 1) ≤ P * x := Nat.mul_le_mul_left _ h
    rw [Nat.mul_add, Nat.mul_one] at hm
    rw [if_neg (by omega), if_neg (by split <;> omega)]
theorem dg_minus (n m i : Nat) (h : m ≤ n) : dg (n - m) i = (dg n i + 4294967296 - dg m i - bw n m i) % 4294967296 := by
  unfold bw dg
  have hP : 0 < 4294967296 ^ i := Nat.pow_pos (by decide)
  have hr := Nat.mod_lt n hP
  have hs := Nat.mod_lt m hP
  have en := Nat.div_add_mod n (4294967296 ^ i)
  have em := Nat.div_add_mod m (4294967296 ^ i)
  generalize 4294967296 ^ i = P at *
  generalize n % P = r at *
  generalize m % P = s at *
  generalize hX : n / P = X at *
  generalize hY : m / P = Y at *
  split
  · have hxy : Y + 1 ≤ X := by
      rcases Nat.lt_or_ge Y X with h1 | h1
      · exact h1
      · have := Nat.mul_le_mul_left P h1
        omega
    have e : n - m = (r + P - s) + P * (X - Y - 1) := by
      have e2 : P * (X - Y - 1) = P * X - P * Y - P := by rw [Nat.mul_sub, Nat.mul_sub, Nat.mul_one]
      have e3 : P * (Y + 1) ≤ P * X := Nat.mul_le_mul_left P hxy
      rw [Nat.mul_add, Nat.mul_one] at e3
      rw [e2]; omega
    rw [e, Nat.add_mul_div_left _ _ hP, Nat.div_eq_of_lt (by omega), Nat.zero_add]
    omega
  · have hxy : Y ≤ X := by
      rcases Nat.lt_or_ge X Y with h1 | h1
      · have := Nat.mul_le_mul_left P (show X + 1 ≤ Y from h1)
        rw [Nat.mul_add, Nat.mul_one] at this
        omega
      · exact h1
    have e : n - m = (r - s) + P * (X - Y) := by
      have e2 : P * (X - Y) = P * X - P * Y := Nat.mul_sub _ _ _
      have e3 : P * Y ≤ P * X := Nat.mul_le_mul_left P hxy
      rw [e2]; omega
    rw [e, Nat.add_mul_div_left _ _ hP, Nat.div_eq_of_lt (by omega), Nat.zero_add]
    omega

set_option maxHeartbeats 4000000 in
set_option maxRecDepth 100000 in
theorem minus_r (n m : Nat) (h : m ≤ n) (w : World) :
    Calls Try.prog 55 #[.agg (dC n), .agg (dC m)] w fun e w' => e = .returned (.agg (dC (n - m))) ∧ Chg w w' [] := by
  have B0 : Blk (((w.alloc (.cells (dC n) 67)).alloc (.cells (dC m) 67)).alloc (.cells z8u 67)) w.heap.size (dC n) 67 := ((Blk.new w (dC n) 67).alloc _).alloc _
  have B1 : Blk (((w.alloc (.cells (dC n) 67)).alloc (.cells (dC m) 67)).alloc (.cells z8u 67)) (w.heap.size + 1) (dC m) 67 := by have h := (Blk.new (w.alloc (.cells (dC n) 67)) (dC m) 67).alloc (.cells z8u 67); simpa using h
  have B2 : Blk (((w.alloc (.cells (dC n) 67)).alloc (.cells (dC m) 67)).alloc (.cells z8u 67)) (w.heap.size + 2) z8u 67 := by have h := Blk.new ((w.alloc (.cells (dC n) 67)).alloc (.cells (dC m) 67)) z8u 67; simpa using h
  have C0 : Chg w (((w.alloc (.cells (dC n) 67)).alloc (.cells (dC m) 67)).alloc (.cells z8u 67)) [] := (((Chg.refl w []).alloc _).alloc _).alloc _
  obtain ⟨q, hq⟩ : ∃ q, q = n - m := ⟨_, rfl⟩
  have HD : Hid (∀ i, dg q i = (dg n i + 4294967296 - dg m i - bw n m i) % 4294967296) := show ∀ i, dg q i = (dg n i + 4294967296 - dg m i - bw n m i) % 4294967296 from fun i => by rw [hq]; exact dg_minus n m i h
  rw [← mix_zero q n] at B0
  rw [← hq]
  clear hq
  go_enter Try.func55, Try.ntmps55
  go_wp2_with fail
  go_loopw [6, 5] (fun t c wr => ∃ i : Nat, i ≤ 8 ∧ t = .int .i64 (i : Int) ∧ c = .int .u64 ((bw n m i : Nat) : Int) ∧ Blk wr w.heap.size (uC 8 (mix q n i)) 67 ∧ Blk wr (w.heap.size + 1) (dC m) 67 ∧ Blk wr (w.heap.size + 2) z8u 67 ∧ Chg w wr []) (fun t _ _ => (8 - intOf t).toNat)
  case atStart => exact ⟨0, by omega, rfl, by rw [bw_zero]; rfl, B0, B1, B2, C0⟩
  case round =>
    obtain ⟨i, hi, rfl, rfl, b0, b1, b2, c0⟩ := hrel
    clear B0 B1 B2 C0
    by_cases h8 : i < 8
    · have hI : (i : Int) < 8 := by omega
      have hx := dg_lt n i
      have hy := dg_lt m i
      have hbw := bw_le n m i
      have cA := (b0.cell i).trans ((uC_get 8 (mix q n i) i h8).trans (by rw [mix_at]))
      have fA := b0.frozen i
      have cB := (b1.cell i).trans (uC_get 8 (dg m) i h8)
      obtain ⟨D, hD⟩ : ∃ D : Int, D = (((dg n i : Nat) : Int) - ((dg m i : Nat) : Int) - ((bw n m i : Nat) : Int)) % 18446744073709551616 := ⟨_, rfl⟩
      have w1 : IntKind.u64.wrap (IntKind.u64.wrap (((dg n i : Nat) : Int) - ((dg m i : Nat) : Int)) - ((bw n m i : Nat) : Int)) = D := by rw [IntKind.wrap_u64, IntKind.wrap_u64, hD]; omega
      have w2 : D % 4294967296 = ((dg q i : Nat) : Int) := by rw [HD.out i, hD]; omega
      have w3 : Hid (D / 9223372036854775808 = ((bw n m (i + 1) : Nat) : Int)) := by show D / 9223372036854775808 = ((bw n m (i + 1) : Nat) : Int); rw [bw_succ, hD]; split <;> omega
      have D0 : 0 ≤ D := by omega
      have D1 : D < 18446744073709551616 := by omega
      have bn : Blk (wr.setCell ⟨w.heap.size, i, none⟩ (.int .u32 ((dg q i : Nat) : Int))) w.heap.size (uC 8 (mix q n (i + 1))) 67 := (b0.setCell i _).to (by rw [uC_set, mix_step])
      have b1n := b1.setOther (show ¬ w.heap.size + 1 = w.heap.size by omega) i (.int .u32 ((dg q i : Nat) : Int))
      have b2n := b2.setOther (show ¬ w.heap.size + 2 = w.heap.size by omega) i (.int .u32 ((dg q i : Nat) : Int))
      have cn := c0.setNew (show w.heap.size ≤ w.heap.size by omega) i (.int .u32 ((dg q i : Nat) : Int))
      clear b0 b1 b2 c0 HD hD
      go_wp2_with fail
      go_region
      go_wp2_with fail
      exact ⟨⟨i + 1, by omega, by go_num, by rw [w3.out], bn.drew, b1n.drew, b2n.drew, cn.drew⟩, by simp [intOf]; omega⟩
    · have h9 : i = 8 := by omega
      subst h9
      rw [mix_all] at b0
      go_wp2_with (first | (refine wpList_load_row rfl 67 _ rfl w.heap.size rfl 67 _ (0, 0) _ b0 Try.underlying67 rfl NumInfo ?_) | (refine wpList_store_row rfl 67 _ _ rfl (w.heap.size + 2) _ rfl rfl 67 _ b2 NumInfo rfl (dC_one _) ?_))
      exact bodyPost_ret (results_cell_row Try.results55 _ _ (w.heap.size + 2) 67 (dC q) (0, 0) _ rfl (Blk.setRow b2 _) Try.underlying67 rfl NumInfo) rfl ⟨rfl, c0.setRowNew (by omega) _⟩
end Go.Proofs.Ytledggdoehnlcaa
