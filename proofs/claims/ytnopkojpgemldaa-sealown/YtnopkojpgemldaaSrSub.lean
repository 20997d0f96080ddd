/- rimeref12.below, minus. -/
import Derived.Test.YtnopkojpgemldaaSrNum
set_option linter.unusedVariables false
set_option linter.unusedSimpArgs false
set_option linter.unnecessarySimpa false
namespace Go.Proofs.Ytnopkojpgemldaa
open Go.RowKit

/-- Five numbers 0. -/
def z5u : Array Value := #[.int .u32 0, .int .u32 0, .int .u32 0, .int .u32 0, .int .u32 0]
theorem z5u_dC : z5u = dC 0 := by kernel_rfl
theorem NumInfo : (Try.prog.info? 101).map (·.size) = some 5 := by kernel_rfl
theorem dC_size (n : Nat) : (dC n).size = 5 := uC_size 5 _
theorem dC_one (n : Nat) : (dC n).all (·.oneCell') = true := uC_one 5 _
/-- The first i digits are m's, the others n's. -/
def mix (m n i : Nat) : Nat → Nat := fun j => if j < i then dg m j else dg n j
theorem mix_zero (m n : Nat) : uC 5 (mix m n 0) = dC n := uC_congr 5 _ _ (fun j _ => if_neg (by omega))
theorem mix_all (m n : Nat) : uC 5 (mix m n 5) = dC m := uC_congr 5 _ _ (fun j hj => if_pos hj)
theorem mix_at (m n i : Nat) : mix m n i i = dg n i := if_neg (by omega)
theorem mix_step (m n i : Nat) : upd (mix m n i) i (dg m i) = mix m n (i + 1) := by
  funext j
  unfold upd mix
  by_cases h : j = i
  · subst h; rw [if_pos rfl, if_pos (by omega)]
  · rw [if_neg h]
    by_cases h2 : j < i
    · rw [if_pos h2, if_pos (by omega)]
    · rw [if_neg h2, if_neg (by omega)]

/-! ### below -/
set_option maxHeartbeats 4000000 in
set_option maxRecDepth 100000 in
theorem below_r (n m : Nat) (hn : n < 1461501637330902918203684832716283019655932542976) (hm : m < 1461501637330902918203684832716283019655932542976) (w : World) :
    Calls Try.prog 97 #[.agg (dC n), .agg (dC m)] w fun e w' => e = .returned (.bool (decide (n < m))) ∧ Chg w w' [] := by
  have B0 : Blk ((w.alloc (.cells (dC n) 101)).alloc (.cells (dC m) 101)) w.heap.size (dC n) 101 := (Blk.new w (dC n) 101).alloc _
  have B1 : Blk ((w.alloc (.cells (dC n) 101)).alloc (.cells (dC m) 101)) (w.heap.size + 1) (dC m) 101 := by have h := Blk.new (w.alloc (.cells (dC n) 101)) (dC m) 101; simpa using h
  have C0 : Chg w ((w.alloc (.cells (dC n) 101)).alloc (.cells (dC m) 101)) [] := ((Chg.refl w []).alloc _).alloc _
  have en := nv_dg5 n hn
  have em := nv_dg5 m hm
  have HE : Hid (nv (dg n) 0 5 = n ∧ nv (dg m) 0 5 = m) := ⟨en, em⟩
  clear en em
  go_enter Try.func97, Try.ntmps97
  go_wp2_with fail
  go_loopw [5] (fun t wr => ∃ k : Nat, k ≤ 5 ∧ t = .int .i64 ((k : Int) - 1) ∧ Blk wr w.heap.size (dC n) 101 ∧ Blk wr (w.heap.size + 1) (dC m) 101 ∧ Chg w wr [] ∧ Hid (∀ j, k ≤ j → j < 5 → dg n j = dg m j)) (fun t _ => (intOf t + 1).toNat)
  case atStart => exact ⟨5, by omega, rfl, B0, B1, C0, show ∀ j, 5 ≤ j → j < 5 → dg n j = dg m j from fun j h1 h2 => by omega⟩
  case round =>
    obtain ⟨k, hk, rfl, b0, b1, c0, hq⟩ := hrel
    clear B0 B1 C0
    by_cases hk0 : k = 0
    · subst hk0
      have e : n = m := by
        rw [← HE.out.1, ← HE.out.2]
        exact nv_congr _ _ 5 0 (fun i _ h => hq.out i (by omega) (by omega))
      have hd : Hid (decide (n < m) = false) := by show decide (n < m) = false; rw [e]; simp
      have hneg : ¬ (0 : Int) ≤ ((0 : Nat) : Int) - 1 := by omega
      clear e hq
      go_wp2_with fail
      go_ret
      exact ⟨by rw [hd.out]; rfl, c0⟩
    · obtain ⟨i, rfl⟩ : ∃ i, k = i + 1 := ⟨k - 1, by omega⟩
      have e1 : (((i + 1 : Nat) : Int) - 1) = (i : Int) := by omega
      rw [e1]
      clear e1 hk0
      have h5 : i < 5 := by omega
      have hI : (i : Int) < 5 := by omega
      have hI0 : (0 : Int) ≤ (i : Int) := by omega
      have cA := (b0.cell i).trans (uC_get 5 (dg n) i h5)
      have cB := (b1.cell i).trans (uC_get 5 (dg m) i h5)
      by_cases hE : dg n i = dg m i
      · have hb : (((dg n i : Nat) : Int) != ((dg m i : Nat) : Int)) = false := by rw [hE]; simp
        have hq' : Hid (∀ j, i ≤ j → j < 5 → dg n j = dg m j) := show ∀ j, i ≤ j → j < 5 → dg n j = dg m j from fun j h1 h2 => by
          by_cases e : j = i
          · rw [e]; exact hE
          · exact hq.out j (by omega) h2
        clear hE hq
        go_wp2_with fail
        go_region
        go_wp2_with fail
        exact ⟨⟨i, by omega, by go_num, b0, b1, c0.drew, hq'⟩, by simp [intOf]⟩
      · have hb : (((dg n i : Nat) : Int) != ((dg m i : Nat) : Int)) = true := by simp; omega
        have hd : decide (dg n i < dg m i) = decide (n < m) := by
          by_cases hl : dg n i < dg m i
          · have h := lex_lt (dg m) (dg n) i h5 (fun j _ => dg_lt n j) hl (fun j h1 h2 => (hq.out j (by omega) h2).symm)
            rw [HE.out.1, HE.out.2] at h
            rw [decide_eq_true h, decide_eq_true hl]
          · have h := lex_lt (dg n) (dg m) i h5 (fun j _ => dg_lt m j) (by omega) (fun j h1 h2 => hq.out j (by omega) h2)
            rw [HE.out.1, HE.out.2] at h
            rw [decide_eq_false (show ¬ n < m by omega), decide_eq_false hl]
        have HD : Hid (decide (dg n i < dg m i) = decide (n < m)) := hd
        clear hE hq hd
        go_wp2_with fail
        go_region
        go_wp2_with fail
        go_region
        go_wp2_with fail
        go_ret
        exact ⟨by rw [← HD.out]; rfl, c0.drew.drew⟩

/-! ### minus -/
/-- What is borrowed from place i of n - m. -/
def bw (n m i : Nat) : Nat := if n % 4294967296 ^ i < m % 4294967296 ^ i then 1 else 0
theorem bw_le (n m i : Nat) : bw n m i ≤ 1 := by unfold bw; split <;> omega
theorem bw_zero (n m : Nat) : bw n m 0 = 0 := by unfold bw; simp [Nat.mod_one]
theorem bw_succ (n m i : Nat) : bw n m (i + 1) = if dg n i < dg m i + bw n m i then 1 else 0 := by
  unfold bw dg
  rw [Nat.pow_succ, Nat.mod_mul, Nat.mod_mul]
  have hP : 0 < 4294967296 ^ i := Nat.pow_pos (by decide)
  have hr := Nat.mod_lt n hP
  have hs := Nat.mod_lt m hP
  generalize 4294967296 ^ i = P at *
  generalize n % P = r at *
  generalize m % P = s at *
  generalize n / P % 4294967296 = x at *
  generalize m / P % 4294967296 = y at *
  rcases Nat.lt_trichotomy x y with h | h | h
  · have hm : P * (x + 1) ≤ P * y := Nat.mul_le_mul_left _ h
    rw [Nat.mul_add, Nat.mul_one] at hm
    rw [if_pos (by omega), if_pos (by omega)]
  · subst h
    split <;> split <;> (try rfl) <;> split at * <;> omega
  · have hm : P * (y + 1) ≤ P * x := Nat.mul_le_mul_left _ h
    rw [Nat.mul_add, Nat.mul_one] at hm
    rw [if_neg (by omega), if_neg (by split <;> omega)]
theorem dg_minus (n m i : Nat) (h : m ≤ n) : dg (n - m) i = (dg n i + 4294967296 - dg m i - bw n m i) % 4294967296 := by
  unfold bw dg
  have hP : 0 < 4294967296 ^ i := Nat.pow_pos (by decide)
  have hr := Nat.mod_lt n hP
  have hs := Nat.mod_lt m hP
  have en := Nat.div_add_mod n (4294967296 ^ i)
  have em := Nat.div_add_mod m (4294967296 ^ i)
  generalize 4294967296 ^ i = P at *
  generalize n % P = r at *
  generalize m % P = s at *
  generalize hX : n / P = X at *
  generalize hY : m / P = Y at *
  split
  · have hxy : Y + 1 ≤ X := by
      rcases Nat.lt_or_ge Y X with h1 | h1
      · exact h1
      · have := Nat.mul_le_mul_left P h1
        omega
    have e : n - m = (r + P - s) + P * (X - Y - 1) := by
      have e2 : P * (X - Y - 1) = P * X - P * Y - P := by rw [Nat.mul_sub, Nat.mul_sub, Nat.mul_one]
      have e3 : P * (Y + 1) ≤ P * X := Nat.mul_le_mul_left P hxy
      rw [Nat.mul_add, Nat.mul_one] at e3
      rw [e2]; omega
    rw [e, Nat.add_mul_div_left _ _ hP, Nat.div_eq_of_lt (by omega), Nat.zero_add]
    omega
  · have hxy : Y ≤ X := by
      rcases Nat.lt_or_ge X Y with h1 | h1
      · have := Nat.mul_le_mul_left P (show X + 1 ≤ Y from h1)
        rw [Nat.mul_add, Nat.mul_one] at this
        omega
      · exact h1
    have e : n - m = (r - s) + P * (X - Y) := by
      have e2 : P * (X - Y) = P * X - P * Y := Nat.mul_sub _ _ _
      have e3 : P * Y ≤ P * X := Nat.mul_le_mul_left P hxy
      rw [e2]; omega
    rw [e, Nat.add_mul_div_left _ _ hP, Nat.div_eq_of_lt (by omega), Nat.zero_add]
    omega

set_option maxHeartbeats 4000000 in
set_option maxRecDepth 100000 in
theorem minus_r (n m : Nat) (h : m ≤ n) (w : World) :
    Calls Try.prog 98 #[.agg (dC n), .agg (dC m)] w fun e w' => e = .returned (.agg (dC (n - m))) ∧ Chg w w' [] := by
  have B0 : Blk (((w.alloc (.cells (dC n) 101)).alloc (.cells (dC m) 101)).alloc (.cells z5u 101)) w.heap.size (dC n) 101 := ((Blk.new w (dC n) 101).alloc _).alloc _
  have B1 : Blk (((w.alloc (.cells (dC n) 101)).alloc (.cells (dC m) 101)).alloc (.cells z5u 101)) (w.heap.size + 1) (dC m) 101 := by have h := (Blk.new (w.alloc (.cells (dC n) 101)) (dC m) 101).alloc (.cells z5u 101); simpa using h
  have B2 : Blk (((w.alloc (.cells (dC n) 101)).alloc (.cells (dC m) 101)).alloc (.cells z5u 101)) (w.heap.size + 2) z5u 101 := by have h := Blk.new ((w.alloc (.cells (dC n) 101)).alloc (.cells (dC m) 101)) z5u 101; simpa using h
  have C0 : Chg w (((w.alloc (.cells (dC n) 101)).alloc (.cells (dC m) 101)).alloc (.cells z5u 101)) [] := (((Chg.refl w []).alloc _).alloc _).alloc _
  obtain ⟨q, hq⟩ : ∃ q, q = n - m := ⟨_, rfl⟩
  have HD : Hid (∀ i, dg q i = (dg n i + 4294967296 - dg m i - bw n m i) % 4294967296) := show ∀ i, dg q i = (dg n i + 4294967296 - dg m i - bw n m i) % 4294967296 from fun i => by rw [hq]; exact dg_minus n m i h
  rw [← mix_zero q n] at B0
  rw [← hq]
  clear hq
  go_enter Try.func98, Try.ntmps98
  go_wp2_with fail
  go_loopw [6, 5] (fun t c wr => ∃ i : Nat, i ≤ 5 ∧ t = .int .i64 (i : Int) ∧ c = .int .u64 ((bw n m i : Nat) : Int) ∧ Blk wr w.heap.size (uC 5 (mix q n i)) 101 ∧ Blk wr (w.heap.size + 1) (dC m) 101 ∧ Blk wr (w.heap.size + 2) z5u 101 ∧ Chg w wr []) (fun t _ _ => (5 - intOf t).toNat)
  case atStart => exact ⟨0, by omega, rfl, by rw [bw_zero]; rfl, B0, B1, B2, C0⟩
  case round =>
    obtain ⟨i, hi, rfl, rfl, b0, b1, b2, c0⟩ := hrel
    clear B0 B1 B2 C0
    by_cases h5 : i < 5
    · have hI : (i : Int) < 5 := by omega
      have hx := dg_lt n i
      have hy := dg_lt m i
      have hbw := bw_le n m i
      have cA := (b0.cell i).trans ((uC_get 5 (mix q n i) i h5).trans (by rw [mix_at]))
      have fA := b0.frozen i
      have cB := (b1.cell i).trans (uC_get 5 (dg m) i h5)
      obtain ⟨D, hD⟩ : ∃ D : Int, D = (((dg n i : Nat) : Int) - ((dg m i : Nat) : Int) - ((bw n m i : Nat) : Int)) % 18446744073709551616 := ⟨_, rfl⟩
      have w1 : IntKind.u64.wrap (IntKind.u64.wrap (((dg n i : Nat) : Int) - ((dg m i : Nat) : Int)) - ((bw n m i : Nat) : Int)) = D := by rw [IntKind.wrap_u64, IntKind.wrap_u64, hD]; omega
      have w2 : D % 4294967296 = ((dg q i : Nat) : Int) := by rw [HD.out i, hD]; omega
      have w3 : Hid (D / 9223372036854775808 = ((bw n m (i + 1) : Nat) : Int)) := by show D / 9223372036854775808 = ((bw n m (i + 1) : Nat) : Int); rw [bw_succ, hD]; split <;> omega
      have D0 : 0 ≤ D := by omega
      have D1 : D < 18446744073709551616 := by omega
      have bn : Blk (wr.setCell ⟨w.heap.size, i, none⟩ (.int .u32 ((dg q i : Nat) : Int))) w.heap.size (uC 5 (mix q n (i + 1))) 101 := (b0.setCell i _).to (by rw [uC_set, mix_step])
      have b1n := b1.setOther (show ¬ w.heap.size + 1 = w.heap.size by omega) i (.int .u32 ((dg q i : Nat) : Int))
      have b2n := b2.setOther (show ¬ w.heap.size + 2 = w.heap.size by omega) i (.int .u32 ((dg q i : Nat) : Int))
      have cn := c0.setNew (show w.heap.size ≤ w.heap.size by omega) i (.int .u32 ((dg q i : Nat) : Int))
      clear b0 b1 b2 c0 HD hD
      go_wp2_with fail
      go_region
      go_wp2_with fail
      exact ⟨⟨i + 1, by omega, by go_num, by rw [w3.out], bn.drew, b1n.drew, b2n.drew, cn.drew⟩, by simp [intOf]; omega⟩
    · have h9 : i = 5 := by omega
      subst h9
      rw [mix_all] at b0
      go_wp2_with (first | (refine wpList_load_row rfl 101 _ rfl w.heap.size rfl 101 _ (0, 0) _ b0 Try.underlying101 rfl NumInfo ?_) | (refine wpList_store_row rfl 101 _ _ rfl (w.heap.size + 2) _ rfl rfl 101 _ b2 NumInfo rfl (dC_one _) ?_))
      exact bodyPost_ret (results_cell_row Try.results98 _ _ (w.heap.size + 2) 101 (dC q) (0, 0) _ rfl (Blk.setRow b2 _) Try.underlying101 rfl NumInfo) rfl ⟨rfl, c0.setRowNew (by omega) _⟩
end Go.Proofs.Ytnopkojpgemldaa
