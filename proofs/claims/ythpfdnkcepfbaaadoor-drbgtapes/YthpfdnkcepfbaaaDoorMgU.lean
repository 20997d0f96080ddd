/- Joined: RNum, RTwice, RMod, RBack, RDig. -/
import Derived.Test.YthpfdnkcepfbaaaDoorMath
/- The document's answer (rimeref02): numbers in digits of 32 bits. Plain arithmetic, and the cells that hold them. -/
set_option linter.unusedVariables false
set_option linter.unusedSimpArgs false
set_option linter.unnecessarySimpa false
namespace Go.Proofs.YthpfdnkcepfbaaaDoor
open Go.RowKit N

/-! ### Cells -/
/-- n numbers, by a function. -/
def uC (n : Nat) (f : Nat → Nat) : Array Value := ((List.range n).map fun i => Value.int .u32 ((f i : Nat) : Int)).toArray
theorem uC_size (n : Nat) (f : Nat → Nat) : (uC n f).size = n := by simp [uC]
theorem uC_get (n : Nat) (f : Nat → Nat) (i : Nat) (h : i < n) : (uC n f)[i]? = some (.int .u32 ((f i : Nat) : Int)) := by simp [uC, h]
theorem uC_none (n : Nat) (f : Nat → Nat) (i : Nat) (h : ¬ i < n) : (uC n f)[i]? = none := Array.getElem?_eq_none (by rw [uC_size]; omega)
theorem uC_one (n : Nat) (f : Nat → Nat) : (uC n f).all (·.oneCell') = true := by
  rw [Array.all_eq_true]
  intro i hi
  have h : i < n := by rw [uC_size] at hi; exact hi
  have := uC_get n f i h
  rw [Array.getElem?_eq_getElem hi] at this
  injection this with this
  rw [this]
  rfl
theorem uC_congr (n : Nat) (f g : Nat → Nat) (h : ∀ i, i < n → f i = g i) : uC n f = uC n g := by
  apply Array.ext_getElem?
  intro i
  by_cases hi : i < n
  · rw [uC_get n f i hi, uC_get n g i hi, h i hi]
  · rw [uC_none n f i hi, uC_none n g i hi]
/-- One place turned. -/
def upd (f : Nat → Nat) (k x : Nat) : Nat → Nat := fun i => if i = k then x else f i
theorem upd_same (f : Nat → Nat) (k x : Nat) : upd f k x k = x := if_pos rfl
theorem upd_other (f : Nat → Nat) (k x i : Nat) (h : i ≠ k) : upd f k x i = f i := if_neg h
theorem uC_set (n : Nat) (f : Nat → Nat) (k x : Nat) : (uC n f).setIfInBounds k (.int .u32 ((x : Nat) : Int)) = uC n (upd f k x) := by
  apply Array.ext_getElem?
  intro i
  rw [Array.getElem?_setIfInBounds]
  by_cases hi : i < n
  · rw [uC_get n (upd f k x) i hi]
    by_cases hk : k = i
    · subst hk; rw [if_pos rfl, if_pos (by rw [uC_size]; exact hi), upd_same]
    · rw [if_neg hk, uC_get n f i hi, upd_other f k x i (fun e => hk e.symm)]
  · rw [uC_none n (upd f k x) i hi, uC_none n f i hi]
    split
    · rw [if_neg (by rw [uC_size]; omega)]
    · rfl

/-! ### Values -/
/-- The number of m digits, from place k on. -/
def nv (f : Nat → Nat) : Nat → Nat → Nat
  | _, 0 => 0
  | k, m + 1 => f k + 4294967296 * nv f (k + 1) m
theorem nv_zero (f : Nat → Nat) (k : Nat) : nv f k 0 = 0 := rfl
theorem nv_succ (f : Nat → Nat) (k m : Nat) : nv f k (m + 1) = f k + 4294967296 * nv f (k + 1) m := rfl
theorem nv_add (f : Nat → Nat) : ∀ (m k n : Nat), nv f k (m + n) = nv f k m + 4294967296 ^ m * nv f (k + m) n
  | 0, k, n => by simp [nv]
  | m + 1, k, n => by
    rw [show m + 1 + n = (m + n) + 1 by omega, nv_succ, nv_succ, nv_add f m (k + 1) n, Nat.pow_succ, show k + 1 + m = k + (m + 1) by omega, Nat.mul_add, ← Nat.mul_assoc, Nat.mul_comm (4294967296 ^ m) 4294967296, Nat.add_assoc]
theorem nv_snoc (f : Nat → Nat) (k m : Nat) : nv f k (m + 1) = nv f k m + 4294967296 ^ m * f (k + m) := by
  rw [nv_add f m k 1]
  simp [nv]
theorem nv_congr (f g : Nat → Nat) : ∀ (m k : Nat), (∀ i, k ≤ i → i < k + m → f i = g i) → nv f k m = nv g k m
  | 0, k, _ => rfl
  | m + 1, k, h => by rw [nv_succ, nv_succ, h k (Nat.le_refl _) (by omega), nv_congr f g m (k + 1) (fun i h1 h2 => h i (by omega) (by omega))]
theorem nv_lt (f : Nat → Nat) : ∀ (m k : Nat), (∀ i, k ≤ i → i < k + m → f i < 4294967296) → nv f k m < 4294967296 ^ m
  | 0, k, _ => by simp [nv]
  | m + 1, k, h => by
    have h0 := h k (Nat.le_refl _) (by omega)
    have ih := nv_lt f m (k + 1) (fun i h1 h2 => h i (by omega) (by omega))
    rw [nv_succ, Nat.pow_succ]
    omega
theorem nv_get (f : Nat → Nat) : ∀ (m k i : Nat), (∀ j, k ≤ j → j < k + m → f j < 4294967296) → i < m → nv f k m / 4294967296 ^ i % 4294967296 = f (k + i)
  | 0, k, i, _, hi => by omega
  | m + 1, k, 0, h, _ => by
    have := h k (Nat.le_refl _) (by omega)
    show nv f k (m + 1) / 4294967296 ^ 0 % 4294967296 = f k
    rw [nv_succ, Nat.pow_zero, Nat.div_one]
    omega
  | m + 1, k, i + 1, h, hi => by
    have h0 := h k (Nat.le_refl _) (by omega)
    have ih := nv_get f m (k + 1) i (fun j h1 h2 => h j (by omega) (by omega)) (by omega)
    rw [nv_succ, Nat.pow_succ, Nat.mul_comm (4294967296 ^ i), ← Nat.div_div_eq_div_mul, Nat.add_mul_div_left _ _ (by decide), Nat.div_eq_of_lt h0, Nat.zero_add, ih]
    rw [show k + 1 + i = k + (i + 1) by omega]
/-- Digit i of n. -/
def dg (n i : Nat) : Nat := n / 4294967296 ^ i % 4294967296
theorem dg_lt (n i : Nat) : dg n i < 4294967296 := Nat.mod_lt _ (by decide)
theorem nv_dg (n : Nat) : ∀ (m k : Nat), nv (dg n) k m = n / 4294967296 ^ k % 4294967296 ^ m
  | 0, k => by simp [nv, Nat.mod_one]
  | m + 1, k => by
    rw [nv_succ, nv_dg n m (k + 1)]
    unfold dg
    rw [Nat.pow_succ 4294967296 k, ← Nat.div_div_eq_div_mul, Nat.pow_succ 4294967296 m, Nat.mul_comm (4294967296 ^ m) 4294967296, Nat.mod_mul]
theorem nv_dg8 (n : Nat) (h : n < 115792089237316195423570985008687907853269984665640564039457584007913129639936) : nv (dg n) 0 8 = n := by
  rw [nv_dg]
  simp
  omega
theorem dg_nv (f : Nat → Nat) (h : ∀ i, i < 8 → f i < 4294967296) (i : Nat) (hi : i < 8) : dg (nv f 0 8) i = f i := by
  unfold dg
  rw [nv_get f 8 0 i (fun j _ hj => h j (by omega)) hi, Nat.zero_add]
/-- The eight digits of n. -/
def dC (n : Nat) : Array Value := uC 8 (dg n)
theorem dC_of (f : Nat → Nat) (h : ∀ i, i < 8 → f i < 4294967296) (n : Nat) (hn : nv f 0 8 = n) : uC 8 f = dC n := by
  subst hn
  exact uC_congr 8 _ _ (fun i hi => (dg_nv f h i hi).symm)
/-- One digit more. -/
theorem nv_upd_above (f : Nat → Nat) (j x k m : Nat) (h : k + m ≤ j) : nv (upd f j x) k m = nv f k m := nv_congr _ _ m k (fun i _ h2 => upd_other f j x i (by omega))
theorem nv_upd_below (f : Nat → Nat) (j x k m : Nat) (h : j < k) : nv (upd f j x) k m = nv f k m := nv_congr _ _ m k (fun i h1 _ => upd_other f j x i (by omega))
/-- A place that grows by x. -/
theorem nv_upd (f : Nat → Nat) (j x m : Nat) (h : j < m) : nv (upd f j (f j + x)) 0 m = nv f 0 m + 4294967296 ^ j * x := by
  obtain ⟨r, rfl⟩ : ∃ r, m = j + (1 + r) := ⟨m - j - 1, by omega⟩
  rw [nv_add (upd f j (f j + x)) j 0 (1 + r), nv_add f j 0 (1 + r), nv_upd_above f j _ 0 j (by omega), Nat.zero_add, nv_add (upd f j (f j + x)) 1 j r, nv_add f 1 j r, nv_upd_below f j _ (j + 1) r (by omega)]
  simp only [nv_succ, nv_zero, upd_same, Nat.mul_zero, Nat.add_zero]
  rw [Nat.mul_add, Nat.mul_add, Nat.mul_add]
  omega

/-! ### Comparing -/
theorem lex_lt (f g : Nat → Nat) (i : Nat) (hi : i < 8) (hg : ∀ j, j < i → g j < 4294967296) (h : g i < f i) (ht : ∀ j, i < j → j < 8 → f j = g j) : nv g 0 8 < nv f 0 8 := by
  obtain ⟨r, hr⟩ : ∃ r, 8 = i + (1 + r) := ⟨7 - i, by omega⟩
  have er : 7 - i = r := by omega
  have hT : nv f (i + 1) (7 - i) = nv g (i + 1) (7 - i) := nv_congr _ _ _ _ (fun j h1 h2 => ht j (by omega) (by omega))
  have hL : nv g 0 i < 4294967296 ^ i := nv_lt g i 0 (fun j _ h2 => hg j (by omega))
  rw [er] at hT
  rw [hr, nv_add g i 0 (1 + r), nv_add f i 0 (1 + r), Nat.zero_add, nv_add g 1 i r, nv_add f 1 i r, hT]
  simp only [nv_succ, nv_zero, Nat.mul_zero, Nat.add_zero]
  have hm : 4294967296 ^ i * (g i + 4294967296 ^ 1 * nv g (i + 1) r + 1) ≤ 4294967296 ^ i * (f i + 4294967296 ^ 1 * nv g (i + 1) r) := Nat.mul_le_mul_left _ (by omega)
  rw [Nat.mul_add _ _ 1, Nat.mul_one] at hm
  omega


/-! ### Twice -/
/-- What is carried into place i of 2 n + b. -/
def cy2 (n b i : Nat) : Nat := if i = 0 then b else dg n (i - 1) / 2147483648
theorem cy2_lt (n b i : Nat) (hb : b < 2) : cy2 n b i < 2 := by unfold cy2; split; exact hb; have := dg_lt n (i - 1); omega
theorem cy2_succ (n b i : Nat) : cy2 n b (i + 1) = dg n i / 2147483648 := by unfold cy2; rw [if_neg (by omega)]; rfl
theorem dg_twice (n b i : Nat) (hb : b < 2) : dg (2 * n + b) i = 2 * dg n i % 4294967296 + cy2 n b i := by
  unfold dg cy2
  cases i with
  | zero => simp only [Nat.pow_zero, Nat.div_one, if_true]; omega
  | succ i =>
    rw [if_neg (by omega), Nat.add_sub_cancel, Nat.pow_succ]
    have e : (2 * n + b) / (4294967296 ^ i * 4294967296) = n / 4294967296 ^ i / 2147483648 := by
      rw [show 4294967296 ^ i * 4294967296 = 2 * (4294967296 ^ i * 2147483648) from by omega, ← Nat.div_div_eq_div_mul, show (2 * n + b) / 2 = n from by omega, Nat.div_div_eq_div_mul]
    rw [e, ← Nat.div_div_eq_div_mul n (4294967296 ^ i) 4294967296]
    unfold dg
    generalize n / 4294967296 ^ i = X
    omega
end Go.Proofs.YthpfdnkcepfbaaaDoor

/- rimeref02.twice, below, minus. -/
namespace Go.Proofs.YthpfdnkcepfbaaaDoor
open Go.RowKit N

/-- Eight numbers 0. -/
def z8u : Array Value := #[.int .u32 0, .int .u32 0, .int .u32 0, .int .u32 0, .int .u32 0, .int .u32 0, .int .u32 0, .int .u32 0]
theorem z8u_dC : z8u = dC 0 := by kernel_rfl
theorem NumInfo : (Tryd.prog.info? 191).map (·.size) = some 8 := by kernel_rfl
theorem dC_size (n : Nat) : (dC n).size = 8 := uC_size 8 _
theorem dC_one (n : Nat) : (dC n).all (·.oneCell') = true := uC_one 8 _
theorem or1 (x c : Nat) (hx : x < 4294967296) (hc : c < 2) : bits .or .u32 (((x : Nat) : Int) * 2 % 4294967296) ((c : Nat) : Int) = ((2 * x % 4294967296 + c : Nat) : Int) := by
  have e : ((x : Nat) : Int) * 2 % 4294967296 = ((2 * x % 4294967296 : Nat) : Int) := by omega
  rw [e, u32_or_nat (2 * x % 4294967296) c (by omega) (by omega), nat_join 1 (2 * x % 4294967296) c (by omega) (by omega)]
/-- The first i digits are m's, the others n's. -/
def mix (m n i : Nat) : Nat → Nat := fun j => if j < i then dg m j else dg n j
theorem mix_zero (m n : Nat) : uC 8 (mix m n 0) = dC n := uC_congr 8 _ _ (fun j _ => if_neg (by omega))
theorem mix_all (m n : Nat) : uC 8 (mix m n 8) = dC m := uC_congr 8 _ _ (fun j hj => if_pos hj)
theorem mix_at (m n i : Nat) : mix m n i i = dg n i := if_neg (by omega)
theorem mix_step (m n i : Nat) : upd (mix m n i) i (dg m i) = mix m n (i + 1) := by
  funext j
  unfold upd mix
  by_cases h : j = i
  · subst h; rw [if_pos rfl, if_pos (by omega)]
  · rw [if_neg h]
    by_cases h2 : j < i
    · rw [if_pos h2, if_pos (by omega)]
    · rw [if_neg h2, if_neg (by omega)]

set_option maxHeartbeats 4000000 in
set_option maxRecDepth 100000 in
theorem twice_r (n b : Nat) (hb : b < 2) (w : World) :
    Calls Tryd.prog 144 #[.agg (dC n), .int .u32 ((b : Nat) : Int)] w fun e w' => e = .returned (.agg (dC (2 * n + b))) ∧ Chg w w' [] := by
  have B0 : Blk ((w.alloc (.cells (dC n) 191)).alloc (.cells z8u 191)) w.heap.size (dC n) 191 := (Blk.new w (dC n) 191).alloc _
  have B1 : Blk ((w.alloc (.cells (dC n) 191)).alloc (.cells z8u 191)) (w.heap.size + 1) z8u 191 := by have h := Blk.new (w.alloc (.cells (dC n) 191)) z8u 191; simpa using h
  have C0 : Chg w ((w.alloc (.cells (dC n) 191)).alloc (.cells z8u 191)) [] := ((Chg.refl w []).alloc _).alloc _
  rw [← mix_zero (2 * n + b) n] at B0
  obtain ⟨m, hm⟩ : ∃ m, m = 2 * n + b := ⟨_, rfl⟩
  have HD : Hid (∀ i, dg m i = 2 * dg n i % 4294967296 + cy2 n b i) := show ∀ i, dg m i = 2 * dg n i % 4294967296 + cy2 n b i from fun i => by rw [hm]; exact dg_twice n b i hb
  rw [← hm] at B0 ⊢
  clear hm
  go_enter Tryd.func144, Tryd.ntmps144
  go_wp2_with fail
  go_loopw [5, 1] (fun t c wr => ∃ i : Nat, i ≤ 8 ∧ t = .int .i64 (i : Int) ∧ c = .int .u32 ((cy2 n b i : Nat) : Int) ∧ Blk wr w.heap.size (uC 8 (mix m n i)) 191 ∧ Blk wr (w.heap.size + 1) z8u 191 ∧ Chg w wr []) (fun t _ _ => (8 - intOf t).toNat)
  case atStart => exact ⟨0, by omega, rfl, rfl, B0, B1, C0⟩
  case round =>
    obtain ⟨i, hi, rfl, rfl, b0, b1, c0⟩ := hrel
    clear B0 B1 C0
    by_cases h8 : i < 8
    · have hI : (i : Int) < 8 := by omega
      have ho := or1 (dg n i) (cy2 n b i) (dg_lt n i) (cy2_lt n b i hb)
      rw [← HD.out i] at ho
      have cA := (b0.cell i).trans ((uC_get 8 (mix m n i) i h8).trans (by rw [mix_at]))
      have fA := b0.frozen i
      have bn : Blk (wr.setCell ⟨w.heap.size, i, none⟩ (.int .u32 ((dg m i : Nat) : Int))) w.heap.size (uC 8 (mix m n (i + 1))) 191 := (b0.setCell i _).to (by rw [uC_set, mix_step])
      have b1n := b1.setOther (show ¬ w.heap.size + 1 = w.heap.size by omega) i (.int .u32 ((dg m i : Nat) : Int))
      have cn := c0.setNew (show w.heap.size ≤ w.heap.size by omega) i (.int .u32 ((dg m i : Nat) : Int))
      have hc : Hid (((dg n i : Nat) : Int) / 2147483648 = ((cy2 n b (i + 1) : Nat) : Int)) := by show ((dg n i : Nat) : Int) / 2147483648 = ((cy2 n b (i + 1) : Nat) : Int); rw [cy2_succ]; omega
      clear b0 b1 c0 HD
      go_wp2_with fail
      exact ⟨⟨i + 1, by omega, by go_num, by rw [hc.out], bn, b1n, cn⟩, by simp [intOf]; omega⟩
    · have h9 : i = 8 := by omega
      subst h9
      rw [mix_all] at b0
      go_wp2_with (first | (refine wpList_load_row rfl 191 _ rfl w.heap.size rfl 191 _ (0, 0) _ b0 Tryd.underlying191 rfl NumInfo ?_) | (refine wpList_store_row rfl 191 _ _ rfl (w.heap.size + 1) _ rfl rfl 191 _ b1 NumInfo rfl (dC_one _) ?_))
      exact bodyPost_ret (results_cell_row Tryd.results144 _ _ (w.heap.size + 1) 191 (dC m) (0, 0) _ rfl (Blk.setRow b1 _) Tryd.underlying191 rfl NumInfo) rfl ⟨rfl, c0.setRowNew (by omega) _⟩

/-! ### below -/
set_option maxHeartbeats 4000000 in
set_option maxRecDepth 100000 in
theorem below_r (n m : Nat) (hn : n < 115792089237316195423570985008687907853269984665640564039457584007913129639936) (hm : m < 115792089237316195423570985008687907853269984665640564039457584007913129639936) (w : World) :
    Calls Tryd.prog 145 #[.agg (dC n), .agg (dC m)] w fun e w' => e = .returned (.bool (decide (n < m))) ∧ Chg w w' [] := by
  have B0 : Blk ((w.alloc (.cells (dC n) 191)).alloc (.cells (dC m) 191)) w.heap.size (dC n) 191 := (Blk.new w (dC n) 191).alloc _
  have B1 : Blk ((w.alloc (.cells (dC n) 191)).alloc (.cells (dC m) 191)) (w.heap.size + 1) (dC m) 191 := by have h := Blk.new (w.alloc (.cells (dC n) 191)) (dC m) 191; simpa using h
  have C0 : Chg w ((w.alloc (.cells (dC n) 191)).alloc (.cells (dC m) 191)) [] := ((Chg.refl w []).alloc _).alloc _
  have en := nv_dg8 n hn
  have em := nv_dg8 m hm
  have HE : Hid (nv (dg n) 0 8 = n ∧ nv (dg m) 0 8 = m) := ⟨en, em⟩
  clear en em
  go_enter Tryd.func145, Tryd.ntmps145
  go_wp2_with fail
  go_loopw [5] (fun t wr => ∃ k : Nat, k ≤ 8 ∧ t = .int .i64 ((k : Int) - 1) ∧ Blk wr w.heap.size (dC n) 191 ∧ Blk wr (w.heap.size + 1) (dC m) 191 ∧ Chg w wr [] ∧ Hid (∀ j, k ≤ j → j < 8 → dg n j = dg m j)) (fun t _ => (intOf t + 1).toNat)
  case atStart => exact ⟨8, by omega, rfl, B0, B1, C0, show ∀ j, 8 ≤ j → j < 8 → dg n j = dg m j from fun j h1 h2 => by omega⟩
  case round =>
    obtain ⟨k, hk, rfl, b0, b1, c0, hq⟩ := hrel
    clear B0 B1 C0
    by_cases hk0 : k = 0
    · subst hk0
      have e : n = m := by
        rw [← HE.out.1, ← HE.out.2]
        exact nv_congr _ _ 8 0 (fun i _ h => hq.out i (by omega) (by omega))
      have hd : Hid (decide (n < m) = false) := by show decide (n < m) = false; rw [e]; simp
      have hneg : ¬ (0 : Int) ≤ ((0 : Nat) : Int) - 1 := by omega
      clear e hq
      go_wp2_with fail
      go_ret
      exact ⟨by rw [hd.out]; rfl, c0⟩
    · obtain ⟨i, rfl⟩ : ∃ i, k = i + 1 := ⟨k - 1, by omega⟩
      have e1 : (((i + 1 : Nat) : Int) - 1) = (i : Int) := by omega
      rw [e1]
      clear e1 hk0
      have h8 : i < 8 := by omega
      have hI : (i : Int) < 8 := by omega
      have hI0 : (0 : Int) ≤ (i : Int) := by omega
      have cA := (b0.cell i).trans (uC_get 8 (dg n) i h8)
      have cB := (b1.cell i).trans (uC_get 8 (dg m) i h8)
      by_cases hE : dg n i = dg m i
      · have hb : (((dg n i : Nat) : Int) != ((dg m i : Nat) : Int)) = false := by rw [hE]; simp
        have hq' : Hid (∀ j, i ≤ j → j < 8 → dg n j = dg m j) := show ∀ j, i ≤ j → j < 8 → dg n j = dg m j from fun j h1 h2 => by
          by_cases e : j = i
          · rw [e]; exact hE
          · exact hq.out j (by omega) h2
        clear hE hq
        go_wp2_with fail
        go_region
        go_wp2_with fail
        exact ⟨⟨i, by omega, by go_num, b0, b1, c0.drew, hq'⟩, by simp [intOf]⟩
      · have hb : (((dg n i : Nat) : Int) != ((dg m i : Nat) : Int)) = true := by simp; omega
        have hd : decide (dg n i < dg m i) = decide (n < m) := by
          by_cases hl : dg n i < dg m i
          · have h := lex_lt (dg m) (dg n) i h8 (fun j _ => dg_lt n j) hl (fun j h1 h2 => (hq.out j (by omega) h2).symm)
            rw [HE.out.1, HE.out.2] at h
            rw [decide_eq_true h, decide_eq_true hl]
          · have h := lex_lt (dg n) (dg m) i h8 (fun j _ => dg_lt m j) (by omega) (fun j h1 h2 => hq.out j (by omega) h2)
            rw [HE.out.1, HE.out.2] at h
            rw [decide_eq_false (show ¬ n < m by omega), decide_eq_false hl]
        have HD : Hid (decide (dg n i < dg m i) = decide (n < m)) := hd
        clear hE hq hd
        go_wp2_with fail
        go_region
        go_wp2_with fail
        go_region
        go_wp2_with fail
        go_ret
        exact ⟨by rw [← HD.out]; rfl, c0.drew.drew⟩

/-! ### minus -/
/-- What is borrowed from place i of n - m. -/
def bw (n m i : Nat) : Nat := if n % 4294967296 ^ i < m % 4294967296 ^ i then 1 else 0
theorem bw_le (n m i : Nat) : bw n m i ≤ 1 := by unfold bw; split <;> omega
theorem bw_zero (n m : Nat) : bw n m 0 = 0 := by unfold bw; simp [Nat.mod_one]
theorem bw_succ (n m i : Nat) : bw n m (i + 1) = if dg n i < dg m i + bw n m i then 1 else 0 := by
  unfold bw dg
  rw [Nat.pow_succ, Nat.mod_mul, Nat.mod_mul]
  have hP : 0 < 4294967296 ^ i := Nat.pow_pos (by decide)
  have hr := Nat.mod_lt n hP
  have hs := Nat.mod_lt m hP
  generalize 4294967296 ^ i = P at *
  generalize n % P = r at *
  generalize m % P = s at *
  generalize n / P % 4294967296 = x at *
  generalize m / P % 4294967296 = y at *
  rcases Nat.lt_trichotomy x y with h | h | h
  · have hm : P * (x + 1) ≤ P * y := Nat.mul_le_mul_left _ h
    rw [Nat.mul_add, Nat.mul_one] at hm
    rw [if_pos (by omega), if_pos (by omega)]
  · subst h
    split <;> split <;> (try rfl) <;> split at * <;> omega
  · have hm : P * (y + 1) ≤ P * x := Nat.mul_le_mul_left _ h
    rw [Nat.mul_add, Nat.mul_one] at hm
    rw [if_neg (by omega), if_neg (by split <;> omega)]
theorem dg_minus (n m i : Nat) (h : m ≤ n) : dg (n - m) i = (dg n i + 4294967296 - dg m i - bw n m i) % 4294967296 := by
  unfold bw dg
  have hP : 0 < 4294967296 ^ i := Nat.pow_pos (by decide)
  have hr := Nat.mod_lt n hP
  have hs := Nat.mod_lt m hP
  have en := Nat.div_add_mod n (4294967296 ^ i)
  have em := Nat.div_add_mod m (4294967296 ^ i)
  generalize 4294967296 ^ i = P at *
  generalize n % P = r at *
  generalize m % P = s at *
  generalize hX : n / P = X at *
  generalize hY : m / P = Y at *
  split
  · have hxy : Y + 1 ≤ X := by
      rcases Nat.lt_or_ge Y X with h1 | h1
      · exact h1
      · have := Nat.mul_le_mul_left P h1
        omega
    have e : n - m = (r + P - s) + P * (X - Y - 1) := by
      have e2 : P * (X - Y - 1) = P * X - P * Y - P := by rw [Nat.mul_sub, Nat.mul_sub, Nat.mul_one]
      have e3 : P * (Y + 1) ≤ P * X := Nat.mul_le_mul_left P hxy
      rw [Nat.mul_add, Nat.mul_one] at e3
      rw [e2]; omega
    rw [e, Nat.add_mul_div_left _ _ hP, Nat.div_eq_of_lt (by omega), Nat.zero_add]
    omega
  · have hxy : Y ≤ X := by
      rcases Nat.lt_or_ge X Y with h1 | h1
      · have := Nat.mul_le_mul_left P (show X + 1 ≤ Y from h1)
        rw [Nat.mul_add, Nat.mul_one] at this
        omega
      · exact h1
    have e : n - m = (r - s) + P * (X - Y) := by
      have e2 : P * (X - Y) = P * X - P * Y := Nat.mul_sub _ _ _
      have e3 : P * Y ≤ P * X := Nat.mul_le_mul_left P hxy
      rw [e2]; omega
    rw [e, Nat.add_mul_div_left _ _ hP, Nat.div_eq_of_lt (by omega), Nat.zero_add]
    omega

set_option maxHeartbeats 4000000 in
set_option maxRecDepth 100000 in
theorem minus_r (n m : Nat) (h : m ≤ n) (w : World) :
    Calls Tryd.prog 146 #[.agg (dC n), .agg (dC m)] w fun e w' => e = .returned (.agg (dC (n - m))) ∧ Chg w w' [] := by
  have B0 : Blk (((w.alloc (.cells (dC n) 191)).alloc (.cells (dC m) 191)).alloc (.cells z8u 191)) w.heap.size (dC n) 191 := ((Blk.new w (dC n) 191).alloc _).alloc _
  have B1 : Blk (((w.alloc (.cells (dC n) 191)).alloc (.cells (dC m) 191)).alloc (.cells z8u 191)) (w.heap.size + 1) (dC m) 191 := by have h := (Blk.new (w.alloc (.cells (dC n) 191)) (dC m) 191).alloc (.cells z8u 191); simpa using h
  have B2 : Blk (((w.alloc (.cells (dC n) 191)).alloc (.cells (dC m) 191)).alloc (.cells z8u 191)) (w.heap.size + 2) z8u 191 := by have h := Blk.new ((w.alloc (.cells (dC n) 191)).alloc (.cells (dC m) 191)) z8u 191; simpa using h
  have C0 : Chg w (((w.alloc (.cells (dC n) 191)).alloc (.cells (dC m) 191)).alloc (.cells z8u 191)) [] := (((Chg.refl w []).alloc _).alloc _).alloc _
  obtain ⟨q, hq⟩ : ∃ q, q = n - m := ⟨_, rfl⟩
  have HD : Hid (∀ i, dg q i = (dg n i + 4294967296 - dg m i - bw n m i) % 4294967296) := show ∀ i, dg q i = (dg n i + 4294967296 - dg m i - bw n m i) % 4294967296 from fun i => by rw [hq]; exact dg_minus n m i h
  rw [← mix_zero q n] at B0
  rw [← hq]
  clear hq
  go_enter Tryd.func146, Tryd.ntmps146
  go_wp2_with fail
  go_loopw [6, 5] (fun t c wr => ∃ i : Nat, i ≤ 8 ∧ t = .int .i64 (i : Int) ∧ c = .int .u64 ((bw n m i : Nat) : Int) ∧ Blk wr w.heap.size (uC 8 (mix q n i)) 191 ∧ Blk wr (w.heap.size + 1) (dC m) 191 ∧ Blk wr (w.heap.size + 2) z8u 191 ∧ Chg w wr []) (fun t _ _ => (8 - intOf t).toNat)
  case atStart => exact ⟨0, by omega, rfl, by rw [bw_zero]; rfl, B0, B1, B2, C0⟩
  case round =>
    obtain ⟨i, hi, rfl, rfl, b0, b1, b2, c0⟩ := hrel
    clear B0 B1 B2 C0
    by_cases h8 : i < 8
    · have hI : (i : Int) < 8 := by omega
      have hx := dg_lt n i
      have hy := dg_lt m i
      have hbw := bw_le n m i
      have cA := (b0.cell i).trans ((uC_get 8 (mix q n i) i h8).trans (by rw [mix_at]))
      have fA := b0.frozen i
      have cB := (b1.cell i).trans (uC_get 8 (dg m) i h8)
      obtain ⟨D, hD⟩ : ∃ D : Int, D = (((dg n i : Nat) : Int) - ((dg m i : Nat) : Int) - ((bw n m i : Nat) : Int)) % 18446744073709551616 := ⟨_, rfl⟩
      have w1 : IntKind.u64.wrap (IntKind.u64.wrap (((dg n i : Nat) : Int) - ((dg m i : Nat) : Int)) - ((bw n m i : Nat) : Int)) = D := by rw [IntKind.wrap_u64, IntKind.wrap_u64, hD]; omega
      have w2 : D % 4294967296 = ((dg q i : Nat) : Int) := by rw [HD.out i, hD]; omega
      have w3 : Hid (D / 9223372036854775808 = ((bw n m (i + 1) : Nat) : Int)) := by show D / 9223372036854775808 = ((bw n m (i + 1) : Nat) : Int); rw [bw_succ, hD]; split <;> omega
      have D0 : 0 ≤ D := by omega
      have D1 : D < 18446744073709551616 := by omega
      have bn : Blk (wr.setCell ⟨w.heap.size, i, none⟩ (.int .u32 ((dg q i : Nat) : Int))) w.heap.size (uC 8 (mix q n (i + 1))) 191 := (b0.setCell i _).to (by rw [uC_set, mix_step])
      have b1n := b1.setOther (show ¬ w.heap.size + 1 = w.heap.size by omega) i (.int .u32 ((dg q i : Nat) : Int))
      have b2n := b2.setOther (show ¬ w.heap.size + 2 = w.heap.size by omega) i (.int .u32 ((dg q i : Nat) : Int))
      have cn := c0.setNew (show w.heap.size ≤ w.heap.size by omega) i (.int .u32 ((dg q i : Nat) : Int))
      clear b0 b1 b2 c0 HD hD
      go_wp2_with fail
      go_region
      go_wp2_with fail
      exact ⟨⟨i + 1, by omega, by go_num, by rw [w3.out], bn.drew, b1n.drew, b2n.drew, cn.drew⟩, by simp [intOf]; omega⟩
    · have h9 : i = 8 := by omega
      subst h9
      rw [mix_all] at b0
      go_wp2_with (first | (refine wpList_load_row rfl 191 _ rfl w.heap.size rfl 191 _ (0, 0) _ b0 Tryd.underlying191 rfl NumInfo ?_) | (refine wpList_store_row rfl 191 _ _ rfl (w.heap.size + 2) _ rfl rfl 191 _ b2 NumInfo rfl (dC_one _) ?_))
      exact bodyPost_ret (results_cell_row Tryd.results146 _ _ (w.heap.size + 2) 191 (dC q) (0, 0) _ rfl (Blk.setRow b2 _) Tryd.underlying191 rfl NumInfo) rfl ⟨rfl, c0.setRowNew (by omega) _⟩
end Go.Proofs.YthpfdnkcepfbaaaDoor

/- rimeref02.Order, mod. -/
namespace Go.Proofs.YthpfdnkcepfbaaaDoor
open Go.RowKit N

/-- Numbers in memory, as many as len, from ⟨g, o⟩ on. -/
structure Us (w : World) (g o len : Nat) (l : Nat → Nat) : Prop where
  lt : g < w.heap.size
  bd : ∀ i, i < len → l i < 4294967296
  cell : ∀ i, i < len → w.cell? ⟨g, o + i, none⟩ = some (.int .u32 ((l i : Nat) : Int))
theorem Us.chg {w w' : World} {g o len : Nat} {l : Nat → Nat} {ch : List Nat} (h : Us w g o len l) (hc : Chg w w' ch) (hb : ¬ g ∈ ch) : Us w' g o len l := by
  refine ⟨Nat.lt_of_lt_of_le h.lt hc.size, h.bd, fun i hi => ?_⟩
  rw [← h.cell i hi]
  simp only [World.cell?, hc.block g h.lt hb]
theorem Us.drew {w : World} {g o len : Nat} {l : Nat → Nat} (h : Us w g o len l) : Us w.drew g o len l := h.chg ((Chg.refl w []).drew) (by simp)
theorem Us.alloc {w : World} {g o len : Nat} {l : Nat → Nat} (h : Us w g o len l) (x : Obj) : Us (w.alloc x) g o len l := h.chg ((Chg.refl w []).alloc x) (by simp)
theorem Us.of {w : World} {g n : Nat} {f : Nat → Nat} {T : TypeId} (h : Blk w g (uC n f) T) (hf : ∀ i, i < n → f i < 4294967296) : Us w g 0 n f := ⟨h.lt, hf, fun i hi => by rw [h.cell, Nat.zero_add]; exact uC_get n f i hi⟩
theorem LN_dC : #[.int .u32 1559614445, .int .u32 1477600026, .int .u32 2734136534, .int .u32 350157278, .int .u32 0, .int .u32 0, .int .u32 0, .int .u32 268435456] = dC LN := by kernel_rfl
theorem LN_pos : 0 < LN := by unfold LN; decide
set_option maxHeartbeats 1000000 in
set_option maxRecDepth 100000 in
theorem Order_r (w : World) : Calls Tryd.prog 143 #[] w fun e w' => e = .returned (.agg (dC LN)) ∧ Chg w w' [] := by
  have B0 := Blk.new w z8u 191
  have C0 := (Chg.refl w []).alloc (.cells z8u 191)
  go_enter Tryd.func143, Tryd.ntmps143
  go_wp2_with (first | (refine gl_build (by rfl) 191 _ rfl (dC LN) (by kernel_rfl) ?_) | (refine wpList_store_row rfl 191 _ _ rfl w.heap.size _ rfl rfl 191 _ B0 NumInfo rfl (dC_one _) ?_))
  exact bodyPost_ret (results_cell_row Tryd.results143 _ _ w.heap.size 191 (dC LN) (0, 0) _ rfl (Blk.setRow B0 _) Tryd.underlying191 rfl NumInfo) rfl ⟨rfl, C0.setRowNew (Nat.le_refl _) _⟩
theorem bit32 (x k : Nat) (hx : x < 4294967296) : bits .and .u32 ((x : Int) / 2 ^ k) 1 = ((x / 2 ^ k % 2 : Nat) : Int) := by
  have e : (x : Int) / 2 ^ k = ((x / 2 ^ k : Nat) : Int) := by rw [Int.natCast_ediv, Int.natCast_pow]; rfl
  have hl : x / 2 ^ k ≤ x := Nat.div_le_self _ _
  rw [e]
  have h := u32_and_nat (x / 2 ^ k) 1 (by omega) (by omega)
  rw [nat_mask1] at h
  exact h
theorem bit_step32 (E x j : Nat) (hj : j < 32) : E * 2 ^ (32 - j) + x / 2 ^ j = 2 * (E * 2 ^ (32 - (j + 1)) + x / 2 ^ (j + 1)) + x / 2 ^ j % 2 := by
  have e1 : 32 - j = (32 - (j + 1)) + 1 := by omega
  rw [e1, Nat.pow_succ 2 (32 - (j + 1)), Nat.pow_succ 2 j, ← Nat.div_div_eq_div_mul, ← Nat.mul_assoc]
  omega
theorem mod_step (X b : Nat) : (2 * (X % LN) + b) % LN = (2 * X + b) % LN := by
  rw [Nat.add_mod, Nat.mul_mod, Nat.mod_mod, ← Nat.mul_mod, ← Nat.add_mod]

set_option maxHeartbeats 4000000 in
set_option maxRecDepth 100000 in
theorem mod_r (g o n cap : Nat) (l : Nat → Nat) (hn : n ≤ 140737488355328) (w : World) (hu : Us w g o n l) :
    Calls Tryd.prog 107 #[.slice (some ⟨g, o, none⟩) n cap] w fun e w' => e = .returned (.agg (dC (nv l 0 n % LN))) ∧ Chg w w' [] := by
  have hg := hu.lt
  have hu0 := hu
  have B0 : Blk ((w.alloc (.cells z8u 191)).alloc (.cells z8u 191)) w.heap.size z8u 191 := (Blk.new w z8u 191).alloc _
  have B1 : Blk ((w.alloc (.cells z8u 191)).alloc (.cells z8u 191)) (w.heap.size + 1) z8u 191 := by have h := Blk.new (w.alloc (.cells z8u 191)) z8u 191; simpa using h
  have C0 : Chg w ((w.alloc (.cells z8u 191)).alloc (.cells z8u 191)) [] := ((Chg.refl w []).alloc _).alloc _
  replace hu := (hu.alloc (.cells z8u 191)).alloc (.cells z8u 191)
  go_enter Tryd.func107, Tryd.ntmps107
  go_wp2_with fail
  refine (Order_r _).mono ?_
  rintro e v0 ⟨rfl, k⟩
  replace B0 := B0.chg k (by simp)
  replace B1 := B1.chg k (by simp)
  replace C0 := C0.trans1 k
  replace hu := hu.chg k (by simp)
  have sz := B1.lt
  clear k
  have A := Blk.new v0 z8u 191
  go_wp2_with (refine wpList_store_row rfl 191 _ _ rfl v0.heap.size _ rfl rfl 191 _ A NumInfo rfl (dC_one _) ?_)
  have A' := A.setRow (dC LN)
  have KS : Chg v0 ((v0.alloc (.cells z8u 191)).setRow v0.heap.size (dC LN)) [] := ((Chg.refl v0 []).alloc (.cells z8u 191)).setRowNew (Nat.le_refl _) (dC LN)
  replace B0 := B0.chg KS (by simp)
  replace B1 := B1.chg KS (by simp)
  replace C0 := C0.trans1 KS
  replace hu := hu.chg KS (by simp)
  clear A KS
  generalize hv1 : (v0.alloc (.cells z8u 191)).setRow v0.heap.size (dC LN) = v1 at A' B0 B1 C0 hu
  change Code.wp _ _ _ _ ((v0.alloc (.cells z8u 191)).setRow v0.heap.size (dC LN))
  rw [hv1]
  clear hv1
  generalize v0.heap.size = od at *
  have hor : ¬ od = w.heap.size + 1 := by omega
  have hgr : ¬ g = w.heap.size + 1 := by omega
  rw [z8u_dC] at B1
  go_loopw [5] (fun t wr => ∃ k : Nat, k ≤ n ∧ t = .int .i64 ((k : Int) - 1) ∧ Blk wr (w.heap.size + 1) (dC (nv l k (n - k) % LN)) 191 ∧ Blk wr od (dC LN) 191 ∧ Blk wr w.heap.size z8u 191 ∧ Us wr g o n l ∧ Chg w wr []) (fun t _ => (intOf t + 1).toNat)
  case atStart => exact ⟨n, Nat.le_refl _, rfl, by rw [Nat.sub_self, nv_zero, Nat.zero_mod]; exact B1, A', B0, hu, C0⟩
  case round =>
    obtain ⟨k, hk, rfl, r0, r1, r2, r3, r4⟩ := hrel
    clear B0 B1 C0 hu A'
    by_cases hk0 : k = 0
    · subst hk0
      have hneg : ¬ (0 : Int) ≤ ((0 : Nat) : Int) - 1 := by omega
      rw [Nat.sub_zero] at r0
      go_wp2_with (first | (refine wpList_load_row rfl 191 _ rfl (w.heap.size + 1) rfl 191 _ (0, 0) _ r0 Tryd.underlying191 rfl NumInfo ?_) | (refine wpList_store_row rfl 191 _ _ rfl w.heap.size _ rfl rfl 191 _ r2 NumInfo rfl (dC_one _) ?_))
      exact bodyPost_ret (results_cell_row Tryd.results107 _ _ w.heap.size 191 (dC (nv l 0 n % LN)) (0, 0) _ rfl (Blk.setRow r2 _) Tryd.underlying191 rfl NumInfo) rfl ⟨rfl, r4.setRowNew (Nat.le_refl _) _⟩
    · obtain ⟨i, rfl⟩ : ∃ i, k = i + 1 := ⟨k - 1, by omega⟩
      have e1 : (((i + 1 : Nat) : Int) - 1) = (i : Int) := by omega
      rw [e1]
      clear e1 hk0
      have hin : i < n := by omega
      have hI0 : (0 : Int) ≤ (i : Int) := by omega
      have hIn : (i : Int) < (n : Int) := by omega
      have hx := r3.bd i hin
      have HE : Hid (nv l i (n - i) = nv l (i + 1) (n - (i + 1)) * 2 ^ (32 - 0) + l i / 2 ^ 0) := by
        show nv l i (n - i) = nv l (i + 1) (n - (i + 1)) * 2 ^ (32 - 0) + l i / 2 ^ 0
        rw [show n - i = (n - (i + 1)) + 1 by omega, nv_succ, Nat.pow_zero, Nat.div_one]
        omega
      generalize nv l (i + 1) (n - (i + 1)) = E at *
      go_wp2_with fail
      go_loopw [6] (fun t wr => ∃ j : Nat, j ≤ 32 ∧ t = .int .i64 ((j : Int) - 1) ∧ Blk wr (w.heap.size + 1) (dC ((E * 2 ^ (32 - j) + l i / 2 ^ j) % LN)) 191 ∧ Blk wr od (dC LN) 191 ∧ Blk wr w.heap.size z8u 191 ∧ Us wr g o n l ∧ Chg w wr []) (fun t _ => (intOf t + 1).toNat)
      case atStart => exact ⟨32, by omega, rfl, by rw [Nat.sub_self, Nat.pow_zero, Nat.mul_one, Nat.div_eq_of_lt (by omega), Nat.add_zero]; exact r0, r1, r2, r3, r4⟩
      case round =>
        obtain ⟨j, hj, rfl, s0, s1, s2, s3, s4⟩ := hrel
        clear r0 r1 r2 r3 r4
        by_cases hj0 : j = 0
        · subst hj0
          have hneg : ¬ (0 : Int) ≤ ((0 : Nat) : Int) - 1 := by omega
          go_wp2_with fail
          exact ⟨⟨i, by omega, by go_num, by rw [HE.out]; exact s0, s1, s2, s3, s4⟩, by simp [intOf]⟩
        · obtain ⟨q, rfl⟩ : ∃ q, j = q + 1 := ⟨j - 1, by omega⟩
          have e1 : (((q + 1 : Nat) : Int) - 1) = (q : Int) := by omega
          rw [e1]
          clear e1 hj0
          have hq0 : (0 : Int) ≤ (q : Int) := by omega
          have hst : Hid (E * 2 ^ (32 - q) + l i / 2 ^ q = 2 * (E * 2 ^ (32 - (q + 1)) + l i / 2 ^ (q + 1)) + l i / 2 ^ q % 2) := bit_step32 E (l i) q (by omega)
          have hbit := bit32 (l i) q hx
          obtain ⟨bt, hbt'⟩ : ∃ bt, bt = l i / 2 ^ q % 2 := ⟨_, rfl⟩
          have hbt : bt < 2 := by omega
          rw [← hbt'] at hbit
          have HV : Hid ((2 * ((E * 2 ^ (32 - (q + 1)) + l i / 2 ^ (q + 1)) % LN) + bt) % LN = (E * 2 ^ (32 - q) + l i / 2 ^ q) % LN) := by
            show (2 * ((E * 2 ^ (32 - (q + 1)) + l i / 2 ^ (q + 1)) % LN) + bt) % LN = (E * 2 ^ (32 - q) + l i / 2 ^ q) % LN
            rw [mod_step, hbt', ← hst.out]
          clear hbt' hst
          have hrl := Nat.mod_lt (E * 2 ^ (32 - (q + 1)) + l i / 2 ^ (q + 1)) LN_pos
          generalize (E * 2 ^ (32 - (q + 1)) + l i / 2 ^ (q + 1)) % LN = r at *
          have hr2 : 2 * r + bt < 2 * LN := by omega
          have hw : IntKind.u64.wrap ((q : Nat) : Int) = ((q : Nat) : Int) := by rw [IntKind.wrap_u64]; omega
          have hmi : min q 32 = q := by omega
          go_wp2_with fail
          refine wp_region_held_drew (S := fun w' => Chg w w' []) (by kernel_rfl) (s4.drew) (fun hHeld => ?_)
          replace s0 := s0.drew
          replace s1 := s1.drew
          replace s2 := s2.drew
          replace s3 := s3.drew
          refine take_val (v := ?_) 1 (some 20) rfl (by kernel_rfl) (by kernel_rfl) (by kernel_rfl) (fun _ _ _ h => h) rfl rfl (fun w hSw => ?_) hHeld ?_
          rotate_left
          · (go_simp; try with_reducible rfl)
          try simp only [Act.put, List.setIfInBounds_toArray, List.set_cons_zero, List.set_cons_succ]
          refine take_val (v := ?_) 2 (some 21) rfl (by kernel_rfl) (by kernel_rfl) (by kernel_rfl) (fun _ _ _ h => h) rfl rfl (fun w hSw => ?_) hHeld ?_
          rotate_left
          · (go_simp; try with_reducible rfl)
          try simp only [Act.put, List.setIfInBounds_toArray, List.set_cons_zero, List.set_cons_succ]
          refine take_val (v := ?_) 3 (some 22) rfl (by kernel_rfl) (by kernel_rfl) (by kernel_rfl) (fun _ _ _ h => h) rfl rfl (fun w hSw => ?_) hHeld ?_
          rotate_left
          · (go_simp; try with_reducible rfl)
          try simp only [Act.put, List.setIfInBounds_toArray, List.set_cons_zero, List.set_cons_succ]
          refine take_val (v := ?_) 4 (some 23) rfl (by kernel_rfl) (by kernel_rfl) (by kernel_rfl) (fun _ _ _ h => h) rfl rfl (fun w hSw => ?_) hHeld ?_
          rotate_left
          · have cx := (hu0.chg hSw (by simp)).cell i hin
            (go_simp; try with_reducible rfl)
          try simp only [Act.put, List.setIfInBounds_toArray, List.set_cons_zero, List.set_cons_succ]
          refine take_val (v := ?_) 5 (some 24) rfl (by kernel_rfl) (by kernel_rfl) (by kernel_rfl) (fun _ _ _ h => h) rfl rfl (fun w hSw => ?_) hHeld ?_
          rotate_left
          · (go_simp; try with_reducible rfl)
          try simp only [Act.put, List.setIfInBounds_toArray, List.set_cons_zero, List.set_cons_succ]
          refine take_val (v := ?_) 6 (some 25) rfl (by kernel_rfl) (by kernel_rfl) (by kernel_rfl) (fun _ _ _ h => h) rfl rfl (fun w hSw => ?_) hHeld ?_
          rotate_left
          · (go_simp; try with_reducible rfl)
          try simp only [Act.put, List.setIfInBounds_toArray, List.set_cons_zero, List.set_cons_succ]
          refine take_val (v := ?_) 7 (some 26) rfl (by kernel_rfl) (by kernel_rfl) (by kernel_rfl) (fun _ _ _ h => h) rfl rfl (fun w hSw => ?_) hHeld ?_
          rotate_left
          · (go_simp; try with_reducible rfl)
          try simp only [Act.put, List.setIfInBounds_toArray, List.set_cons_zero, List.set_cons_succ]
          refine take_val (v := ?_) 8 (some 27) rfl (by kernel_rfl) (by kernel_rfl) (by kernel_rfl) (fun _ _ _ h => h) rfl rfl (fun w hSw => ?_) hHeld ?_
          rotate_left
          · (go_simp; try with_reducible rfl)
          try simp only [Act.put, List.setIfInBounds_toArray, List.set_cons_zero, List.set_cons_succ]
          refine wpAnyH_ready (rs := [0]) (by kernel_rfl) (by simp) ?_
          refine AllReadyH.cons (o := _) rfl (fun K hK => ?_) ?_
          ·
            rw [if_pos (by rfl)]
            refine wp_load_row 191 _ rfl (w.heap.size + 1) rfl 191 _ (0, 0) _ s0 Tryd.underlying191 rfl NumInfo ?_
            refine hK.out _ _ (hHeld) (fun hHeld => ?_)
            clear hK K
            try simp only [Act.put, List.setIfInBounds_toArray, List.set_cons_zero, List.set_cons_succ]
            refine wpAnyH_ready (rs := [9]) (by kernel_rfl) (by simp) ?_
            refine AllReadyH.cons (o := _) rfl (fun K hK => ?_) ?_
            ·
              go_simp
              refine (twice_r r bt hbt _).mono ?_
              rintro e ψ1 ⟨rfl, kc⟩
              replace s0 := s0.chg kc (by simp)
              replace s1 := s1.chg kc (by simp)
              replace s2 := s2.chg kc (by simp)
              replace s3 := s3.chg kc (by simp)
              go_wp2_with fail
              refine hK.out _ _ (hHeld.trans1 kc) (fun hHeld => ?_)
              clear hK K
              try simp only [Act.put, List.setIfInBounds_toArray, List.set_cons_zero, List.set_cons_succ]
              refine wpAnyH_ready (rs := [10]) (by kernel_rfl) (by simp) ?_
              refine AllReadyH.cons (o := _) rfl (fun K hK => ?_) ?_
              ·
                rw [if_pos (by rfl)]
                refine wp_store_row 191 _ _ rfl (w.heap.size + 1) _ rfl rfl 191 _ s0 NumInfo rfl (dC_one _) ?_
                refine hK.out _ _ (hHeld.setRowNew (by omega) _) (fun hHeld => ?_)
                clear hK K
                try simp only [Act.put, List.setIfInBounds_toArray, List.set_cons_zero, List.set_cons_succ]
                refine wpAnyH_done (by kernel_rfl) ?_ _
                replace s1 := s1.setRowOther hor (dC (2 * r + bt))
                replace s2 := s2.setRowOther (show ¬ w.heap.size = w.heap.size + 1 by omega) (dC (2 * r + bt))
                replace s3 := s3.chg (Chg.of (gb_setRow (k := w.heap.size + 1) (gb_refl _ _) (dC (2 * r + bt)))) (by simpa using hgr)
                replace s0 := s0.setRow (dC (2 * r + bt))
                clear s4
                have s4 := hHeld
                clear hHeld kc
                generalize World.setRow ψ1 (w.heap.size + 1) (dC (2 * r + bt)) = ψ2 at *
                clear hbit hw hmi hu0
                go_wp2_with (first | (refine wpList_load_row rfl 191 _ rfl (w.heap.size + 1) rfl 191 _ (0, 0) _ s0 Tryd.underlying191 rfl NumInfo ?_) | (refine wpList_load_row rfl 191 _ rfl od rfl 191 _ (0, 0) _ s1 Tryd.underlying191 rfl NumInfo ?_))
                refine (below_r (2 * r + bt) LN (by unfold LN at *; omega) (by unfold LN; decide) _).mono ?_
                rintro e ψ3 ⟨rfl, kc⟩
                replace s0 := s0.chg kc (by simp)
                replace s1 := s1.chg kc (by simp)
                replace s2 := s2.chg kc (by simp)
                replace s3 := s3.chg kc (by simp)
                replace s4 := s4.trans1 kc
                clear kc
                by_cases hlt : 2 * r + bt < LN
                · rw [decide_eq_true hlt]
                  go_wp2_with fail
                  exact ⟨⟨q, by omega, by go_num, by rw [← HV.out, Nat.mod_eq_of_lt hlt]; exact s0, s1, s2, s3, s4⟩, by simp [intOf]⟩
                · rw [decide_eq_false hlt]
                  go_wp2_with (first | (refine wpList_load_row rfl 191 _ rfl (w.heap.size + 1) rfl 191 _ (0, 0) _ s0 Tryd.underlying191 rfl NumInfo ?_) | (refine wpList_load_row rfl 191 _ rfl od rfl 191 _ (0, 0) _ s1 Tryd.underlying191 rfl NumInfo ?_))
                  refine (minus_r (2 * r + bt) LN (by omega) _).mono ?_
                  rintro e ψ4 ⟨rfl, kc⟩
                  replace s0 := s0.chg kc (by simp)
                  replace s1 := s1.chg kc (by simp)
                  replace s2 := s2.chg kc (by simp)
                  replace s3 := s3.chg kc (by simp)
                  replace s4 := s4.trans1 kc
                  clear kc
                  go_wp2_with (refine wpList_store_row rfl 191 _ _ rfl (w.heap.size + 1) _ rfl rfl 191 _ s0 (by rw [dC_size]; exact NumInfo) (by rw [dC_size, dC_size]) (dC_one _) ?_)
                  exact ⟨⟨q, by omega, by go_num, by rw [← HV.out, Nat.mod_eq_sub_mod (by omega), Nat.mod_eq_of_lt (by omega)]; exact s0.setRow _, s1.setRowOther hor _, s2.setRowOther (by omega) _, s3.chg (Chg.of (gb_setRow (k := w.heap.size + 1) (gb_refl _ _) _)) (by simpa using hgr), s4.setRowNew (by omega) _⟩, by simp [intOf]⟩
              exact AllReadyH.nil
            exact AllReadyH.nil
          exact AllReadyH.nil
end Go.Proofs.YthpfdnkcepfbaaaDoor

/- rimeref02.Back. -/
namespace Go.Proofs.YthpfdnkcepfbaaaDoor
open Go.RowKit N

/-- 32 bytes, by a function. -/
def b32 (f : Nat → Int) : Array Value := ((List.range 32).map fun i => Value.int .u8 (f i)).toArray
theorem b32_size (f : Nat → Int) : (b32 f).size = 32 := by simp [b32]
theorem b32_get (f : Nat → Int) (i : Nat) (h : i < 32) : (b32 f)[i]? = some (.int .u8 (f i)) := by simp [b32, h]
theorem b32_none (f : Nat → Int) (i : Nat) (h : ¬ i < 32) : (b32 f)[i]? = none := Array.getElem?_eq_none (by rw [b32_size]; omega)
theorem b32_set (f f' : Nat → Int) (k : Nat) (x : Int) (h : ∀ i, i < 32 → f' i = if i = k then x else f i) : (b32 f).setIfInBounds k (.int .u8 x) = b32 f' := by
  apply Array.ext_getElem?
  intro i
  rw [Array.getElem?_setIfInBounds]
  by_cases hi : i < 32
  · rw [b32_get f' i hi, h i hi]
    by_cases hk : k = i
    · subst hk; rw [if_pos rfl, if_pos (by rw [b32_size]; exact hi), if_pos rfl]
    · rw [if_neg hk, b32_get f i hi, if_neg (fun e => hk e.symm)]
  · rw [b32_none f' i hi, b32_none f i hi]
    split
    · rw [if_neg (by rw [b32_size]; omega)]
    · rfl
theorem b32_fe (n : Int) (f : Nat → Int) (h : ∀ i, i < 32 → f i = by8 n i) : b32 f = feC n := by
  apply Array.ext_getElem?
  intro i
  by_cases hi : i < 32
  · rw [b32_get f i hi, feC_get n i hi, h i hi]
  · rw [b32_none f i hi, Array.getElem?_eq_none (by rw [feC_size]; omega)]
theorem b32_z32 : b32 (fun _ => 0) = z32 := by kernel_rfl
/-- The first i bytes of n. -/
def bx (n : Int) (i : Nat) : Nat → Int := fun j => if j < i then by8 n j else 0
theorem bx_step (n : Int) (i j : Nat) : bx n (i + 1) j = if j = i then by8 n i else bx n i j := by
  unfold bx
  by_cases h : j = i
  · subst h; rw [if_pos (by omega), if_pos rfl]
  · rw [if_neg h]
    by_cases h2 : j < i
    · rw [if_pos h2, if_pos (by omega)]
    · rw [if_neg h2, if_neg (by omega)]
theorem by8_dg (n p t : Nat) (ht : t < 4) : ((dg n p : Nat) : Int) / 2 ^ (8 * t) % 256 = by8 (n : Int) (4 * p + t) := by
  have e : by8 (n : Int) (4 * p + t) = ((n / 256 ^ (4 * p + t) % 256 : Nat) : Int) := by
    unfold by8
    rw [Int.natCast_emod, Int.natCast_ediv, Int.natCast_pow]; rfl
  rw [e, Nat.pow_add, Nat.pow_mul, ← Nat.div_div_eq_div_mul]
  unfold dg
  generalize n / (256 ^ 4) ^ p = X at *
  have h4 : t = 0 ∨ t = 1 ∨ t = 2 ∨ t = 3 := by omega
  rcases h4 with rfl | rfl | rfl | rfl <;> simp <;> omega

set_option maxHeartbeats 4000000 in
set_option maxRecDepth 100000 in
theorem Back_r (n : Nat) (w : World) :
    Calls Tryd.prog 106 #[.agg (dC n)] w fun e w' => e = .returned (fe (n : Int)) ∧ Chg w w' [] := by
  have B0 : Blk (((w.alloc (.cells (dC n) 191)).alloc (.cells z32 86)).alloc (.cells z32 86)) w.heap.size (dC n) 191 := ((Blk.new w (dC n) 191).alloc _).alloc _
  have B1 : Blk (((w.alloc (.cells (dC n) 191)).alloc (.cells z32 86)).alloc (.cells z32 86)) (w.heap.size + 1) z32 86 := by have h := (Blk.new (w.alloc (.cells (dC n) 191)) z32 86).alloc (.cells z32 86); simpa using h
  have B2 : Blk (((w.alloc (.cells (dC n) 191)).alloc (.cells z32 86)).alloc (.cells z32 86)) (w.heap.size + 2) z32 86 := by have h := Blk.new ((w.alloc (.cells (dC n) 191)).alloc (.cells z32 86)) z32 86; simpa using h
  have C0 : Chg w (((w.alloc (.cells (dC n) 191)).alloc (.cells z32 86)).alloc (.cells z32 86)) [] := (((Chg.refl w []).alloc _).alloc _).alloc _
  rw [show z32 = b32 (bx (n : Int) 0) from b32_z32.symm] at B2
  go_enter Tryd.func106, Tryd.ntmps106
  go_wp2_with fail
  go_loopw [4] (fun t wr => ∃ i : Nat, i ≤ 32 ∧ t = .int .i64 (i : Int) ∧ Blk wr w.heap.size (dC n) 191 ∧ Blk wr (w.heap.size + 1) z32 86 ∧ Blk wr (w.heap.size + 2) (b32 (bx (n : Int) i)) 86 ∧ Chg w wr []) (fun t _ => (32 - intOf t).toNat)
  case atStart => exact ⟨0, by omega, rfl, B0, B1, B2, C0⟩
  case round =>
    obtain ⟨i, hi, rfl, b0, b1, b2, c0⟩ := hrel
    clear B0 B1 B2 C0
    by_cases h32 : i < 32
    · obtain ⟨p, t, ht, hp, rfl⟩ : ∃ p t, t < 4 ∧ p < 8 ∧ i = 4 * p + t := ⟨i / 4, i % 4, by omega, by omega, by omega⟩
      have hI : ((4 * p + t : Nat) : Int) < 32 := by omega
      have hI0 : (0 : Int) ≤ ((4 * p + t : Nat) : Int) := by omega
      have hdv : ((4 * p + t : Nat) : Int) / 4 = ((p : Nat) : Int) := by omega
      have hmd : ((4 * p + t : Nat) : Int) % 4 = ((t : Nat) : Int) := by omega
      have hpl : ((p : Nat) : Int) < 8 := by omega
      have hw : IntKind.u64.wrap (8 * ((t : Nat) : Int)) = 8 * ((t : Nat) : Int) := by rw [IntKind.wrap_u64]; omega
      have htn : (8 * ((t : Nat) : Int)).toNat = 8 * t := by omega
      have hmi : min (8 * t) 32 = 8 * t := by omega
      have cA := (b0.cell p).trans (uC_get 8 (dg n) p hp)
      have cB := (b2.cell (4 * p + t)).trans (b32_get _ (4 * p + t) h32)
      have fB := b2.frozen (4 * p + t)
      have hv := by8_dg n p t ht
      have b2n : Blk (wr.setCell ⟨w.heap.size + 2, 4 * p + t, none⟩ (.int .u8 (by8 (n : Int) (4 * p + t)))) (w.heap.size + 2) (b32 (bx (n : Int) (4 * p + t + 1))) 86 := (b2.setCell (4 * p + t) _).to (b32_set _ _ _ _ (fun j _ => bx_step _ _ _))
      have b0n := b0.setOther (show ¬ w.heap.size = w.heap.size + 2 by omega) (4 * p + t) (.int .u8 (by8 (n : Int) (4 * p + t)))
      have b1n := b1.setOther (show ¬ w.heap.size + 1 = w.heap.size + 2 by omega) (4 * p + t) (.int .u8 (by8 (n : Int) (4 * p + t)))
      have cn := c0.setNew (show w.heap.size ≤ w.heap.size + 2 by omega) (4 * p + t) (.int .u8 (by8 (n : Int) (4 * p + t)))
      clear b0 b1 b2 c0
      generalize hii : 4 * p + t = i at *
      clear hii
      go_wp2_with fail
      exact ⟨⟨i + 1, by omega, by go_num, b0n, b1n, b2n, cn⟩, by simp [intOf]; omega⟩
    · have h9 : i = 32 := by omega
      subst h9
      rw [b32_fe (n : Int) (bx (n : Int) 32) (fun j hj => if_pos hj)] at b2
      go_wp2_with (first | (refine wpList_load_row rfl 86 _ rfl (w.heap.size + 2) rfl 86 _ (0, 0) _ b2 Tryd.underlying86 rfl feInfo ?_) | (refine wpList_store_row rfl 86 _ _ rfl (w.heap.size + 1) _ rfl rfl 86 _ b1 feInfo rfl (feC_one _) ?_))
      exact bodyPost_ret (results_cell_row Tryd.results106 _ _ (w.heap.size + 1) 86 (feC (n : Int)) (0, 0) _ rfl (Blk.setRow b1 _) Tryd.underlying86 rfl feInfo) rfl ⟨rfl, c0.setRowNew (by omega) _⟩
end Go.Proofs.YthpfdnkcepfbaaaDoor

/- rimeref02.digits, Value. -/
namespace Go.Proofs.YthpfdnkcepfbaaaDoor
open Go.RowKit N

theorem u32Info : (Tryd.prog.info? 168).map (·.size) = some 1 := by kernel_rfl
/-- Digit q of the first i bytes. -/
def dfk (b : Nat → Nat) (i q : Nat) : Nat := (if 4 * q < i then b (4 * q) else 0) + 256 * (if 4 * q + 1 < i then b (4 * q + 1) else 0) + 65536 * (if 4 * q + 2 < i then b (4 * q + 2) else 0) + 16777216 * (if 4 * q + 3 < i then b (4 * q + 3) else 0)
theorem dfk_zero (b : Nat → Nat) (q : Nat) : dfk b 0 q = 0 := by simp [dfk]
theorem dfk_lt (b : Nat → Nat) (i q : Nat) (h : ∀ j, j < i → b j < 256) : dfk b i q < 4294967296 := by
  have e : ∀ j, (if j < i then b j else 0) < 256 := fun j => by split; exact h j (by omega); decide
  have e0 := e (4 * q); have e1 := e (4 * q + 1); have e2 := e (4 * q + 2); have e3 := e (4 * q + 3)
  unfold dfk
  omega
theorem dfk_other (b : Nat → Nat) (i q : Nat) (h : ¬ q = i / 4) : dfk b (i + 1) q = dfk b i q := by
  unfold dfk
  have e : ∀ j, j / 4 = q → (if j < i + 1 then b j else 0) = (if j < i then b j else 0) := fun j hj => by
    by_cases h1 : j < i
    · rw [if_pos h1, if_pos (by omega)]
    · rw [if_neg h1, if_neg (by omega)]
  rw [e (4 * q) (by omega), e (4 * q + 1) (by omega), e (4 * q + 2) (by omega), e (4 * q + 3) (by omega)]
theorem dfk_same (b : Nat → Nat) (p t : Nat) (ht : t < 4) : dfk b (4 * p + t + 1) p = dfk b (4 * p + t) p + 256 ^ t * b (4 * p + t) := by
  unfold dfk
  have h4 : t = 0 ∨ t = 1 ∨ t = 2 ∨ t = 3 := by omega
  rcases h4 with rfl | rfl | rfl | rfl <;> simp only [Nat.pow_zero, Nat.reducePow, Nat.one_mul, Nat.add_zero] <;> (repeat' split) <;> omega
theorem dfk_low (b : Nat → Nat) (p t : Nat) (ht : t < 4) (h : ∀ j, j < 4 * p + t → b j < 256) : dfk b (4 * p + t) p < 256 ^ t := by
  unfold dfk
  have h4 : t = 0 ∨ t = 1 ∨ t = 2 ∨ t = 3 := by omega
  have a0 := h (4 * p); have a1 := h (4 * p + 1); have a2 := h (4 * p + 2)
  rcases h4 with rfl | rfl | rfl | rfl <;> simp only [Nat.pow_zero, Nat.reducePow, Nat.add_zero] at * <;> (repeat' split) <;> omega
theorem or_dig (x y t : Nat) (ht : t < 4) (hx : x < 256 ^ t) (hy : y < 256) : bits .or .u32 ((x : Nat) : Int) (((y : Nat) : Int) * 2 ^ (8 * t) % 4294967296) = ((x + 256 ^ t * y : Nat) : Int) := by
  have e : ((y : Nat) : Int) * 2 ^ (8 * t) % 4294967296 = ((256 ^ t * y : Nat) : Int) := by
    have h4 : t = 0 ∨ t = 1 ∨ t = 2 ∨ t = 3 := by omega
    rcases h4 with rfl | rfl | rfl | rfl <;> simp <;> omega
  have hp : 256 ^ t = 2 ^ (8 * t) := by rw [Nat.pow_mul]
  have hl : 256 ^ t * y < 4294967296 ∧ x < 4294967296 := by
    have h4 : t = 0 ∨ t = 1 ∨ t = 2 ∨ t = 3 := by omega
    rcases h4 with rfl | rfl | rfl | rfl <;> simp at hx ⊢ <;> omega
  rw [e, u32_or_nat x (256 ^ t * y) hl.2 hl.1, Nat.or_comm, nat_join (8 * t) (256 ^ t * y) x (by rw [hp]; exact Nat.mul_mod_right _ _) (by rw [← hp]; exact hx), Nat.add_comm]
/-- The digits' number is the bytes'. -/
theorem nv_dfk (b : Nat → Nat) (i : Nat) : ∀ m k, nv (dfk b i) k m = nb (fun j => if j < i then b j else 0) (4 * k) (4 * m)
  | 0, k => rfl
  | m + 1, k => by
    rw [nv_succ, nv_dfk b i m (k + 1), show 4 * (m + 1) = 4 * m + 1 + 1 + 1 + 1 by omega]
    rw [nb_succ, nb_succ, nb_succ, nb_succ, show 4 * (k + 1) = 4 * k + 1 + 1 + 1 + 1 by omega, show 4 * k + 1 + 1 = 4 * k + 2 from rfl, show 4 * k + 2 + 1 = 4 * k + 3 from rfl]
    unfold dfk
    omega
theorem nb_zero_all (f : Nat → Nat) : ∀ m k, (∀ j, k ≤ j → f j = 0) → nb f k m = 0
  | 0, _, _ => rfl
  | m + 1, k, h => by rw [nb_succ, h k (Nat.le_refl _), nb_zero_all f m (k + 1) (fun j hj => h j (by omega))]
theorem nv_digits (b : Nat → Nat) (n : Nat) : nv (dfk b n) 0 ((n + 3) / 4) = nb b 0 n := by
  rw [nv_dfk, Nat.mul_zero]
  obtain ⟨r, hr⟩ : ∃ r, 4 * ((n + 3) / 4) = n + r := ⟨4 * ((n + 3) / 4) - n, by omega⟩
  rw [hr, nb_add, Nat.zero_add, nb_zero_all _ r n (fun j hj => if_neg (by omega)), Nat.mul_zero, Nat.add_zero]
  exact nb_congr _ _ n 0 (fun i _ h => if_pos (by omega))

theorem made_u32 (n : Nat) : madeCells #[.int .u32 0] n = uC n fun _ => 0 := by
  apply Array.ext_getElem?
  intro i
  by_cases hi : i < n
  · rw [uC_get n _ i hi]
    have hs : i < (Array.range n).size := by simpa using hi
    unfold madeCells
    rw [Array.getElem?_map, Array.getElem?_eq_getElem hs]
    simp [Nat.mod_one]
  · rw [uC_none n _ i hi, Array.getElem?_eq_none (by rw [size_madeCells]; omega)]
theorem u32Zero : ∃ i : TypeInfo, Tryd.prog.info? 168 = some i ∧ i.zero = some (.int .u32 0) ∧ i.bytes = 4 ∧ i.size = 1 := by
  have h : (Tryd.prog.info? 168).map (fun i => (i.zero, i.bytes, i.size)) = some (some (.int .u32 0), 4, 1) := by kernel_rfl
  cases hi : Tryd.prog.info? 168 with
  | none => rw [hi] at h; cases h
  | some i =>
    rw [hi] at h
    injection h with h
    injection h with h1 h2
    injection h2 with h2 h3
    exact ⟨i, rfl, h1, h2, h3⟩
theorem mkU (n : Nat) (hn : n ≤ 70368744177664) (w : World) : (Instr.makeSlice 114 (.int .i64 (n : Int)) (.int .i64 (n : Int))).run Tryd.prog w = .ok (.slice (some ⟨w.heap.size, 0, none⟩) n n) (w.alloc (.cells (uC n fun _ => 0) 168)) := by
  obtain ⟨i, hi, hz, hb, hs⟩ := u32Zero
  have h := run_make (P := Tryd.prog) w 114 168 i (.int .u32 0) Tryd.underlying114 hi hz .i64 .i64 (n : Int) (n : Int) (by omega) (by omega) (by rw [hb]; omega) (by omega)
  rw [hs, Nat.mul_one] at h
  simp only [Int.toNat_natCast, Value.cells, made_u32] at h
  exact h

set_option maxHeartbeats 4000000 in
set_option maxRecDepth 100000 in
theorem digits_r (g o n cap : Nat) (b : Nat → Nat) (hn : n ≤ 140737488355328) (w : World) (hB : Bs w g o n b) :
    Calls Tryd.prog 108 #[.slice (some ⟨g, o, none⟩) n cap] w fun e w' => ∃ h, e = .returned (.slice (some ⟨h, 0, none⟩) ((n + 3) / 4) ((n + 3) / 4)) ∧ w.heap.size ≤ h ∧ Blk w' h (uC ((n + 3) / 4) (dfk b n)) 168 ∧ Chg w w' [] := by
  have hg := hB.lt
  have hbd := hB.bd
  obtain ⟨m, hm⟩ : ∃ m, m = (n + 3) / 4 := ⟨_, rfl⟩
  rw [← hm]
  have hmk := mkU m (by omega)
  have hmI : ((n : Int) + 3) / 4 = (m : Int) := by omega
  have hmI' : Hid (m = (n + 3) / 4) := hm
  clear hm
  have B1 := Blk.new w (uC m fun _ => 0) 168
  rw [uC_congr m _ (dfk b 0) (fun i _ => (dfk_zero b i).symm)] at B1
  have C0 := (Chg.refl w []).alloc (.cells (uC m fun _ => 0) 168)
  replace hB := hB.alloc (.cells (uC m fun _ => 0) 168)
  rw [uC_congr m _ (dfk b 0) (fun i _ => (dfk_zero b i).symm)] at C0 hB
  rw [uC_congr m _ (dfk b 0) (fun i _ => (dfk_zero b i).symm)] at hmk
  go_enter Tryd.func108, Tryd.ntmps108
  go_wp2_with fail
  clear hmk
  go_loopw [4] (fun t wr => ∃ k : Nat, k ≤ n ∧ t = .int .i64 (k : Int) ∧ Blk wr w.heap.size (uC m (dfk b k)) 168 ∧ Bs wr g o n b ∧ Chg w wr []) (fun t _ => ((n : Int) - intOf t).toNat)
  case atStart => exact ⟨0, by omega, rfl, B1, hB, C0⟩
  case round =>
    obtain ⟨k, hk, rfl, b1, u0, c0⟩ := hrel
    clear B1 C0 hB
    have hgw : ¬ g = w.heap.size := by omega
    by_cases hkn : k < n
    · obtain ⟨p, t, ht, rfl⟩ : ∃ p t, t < 4 ∧ k = 4 * p + t := ⟨k / 4, k % 4, by omega, by omega⟩
      have hbk := hbd (4 * p + t) hkn
      have cB := u0.cell (4 * p + t) hkn
      have hpm : p < m := by have := hmI'.out; omega
      have hjI : (p : Int) < (m : Int) := by omega
      have cA := (b1.cell p).trans (uC_get m (dfk b (4 * p + t)) p hpm)
      have fA := b1.frozen p
      have hkI : ((4 * p + t : Nat) : Int) < (n : Int) := by omega
      have hdv : ((4 * p + t : Nat) : Int) / 4 = ((p : Nat) : Int) := by omega
      have hmd : ((4 * p + t : Nat) : Int) % 4 = ((t : Nat) : Int) := by omega
      have hw : IntKind.u64.wrap (8 * ((t : Nat) : Int)) = 8 * ((t : Nat) : Int) := by rw [IntKind.wrap_u64]; omega
      have htn : (8 * ((t : Nat) : Int)).toNat = 8 * t := by omega
      have hmi : min (8 * t) 32 = 8 * t := by omega
      have hor := or_dig (dfk b (4 * p + t) p) (b (4 * p + t)) t ht (dfk_low b p t ht (fun j hj => hbd j (by omega))) hbk
      rw [← dfk_same b p t ht] at hor
      have hset : upd (dfk b (4 * p + t)) p (dfk b (4 * p + t + 1) p) = dfk b (4 * p + t + 1) := by
        funext j
        unfold upd
        by_cases e : j = p
        · subst e; rw [if_pos rfl]
        · rw [if_neg e, dfk_other b (4 * p + t) j (by omega)]
      have bn : Blk (wr.setCell ⟨w.heap.size, p, none⟩ (.int .u32 ((dfk b (4 * p + t + 1) p : Nat) : Int))) w.heap.size (uC m (dfk b (4 * p + t + 1))) 168 := (b1.setCell p _).to (by rw [uC_set, hset])
      have un := u0.chg (Chg.of (gb_set (gb_refl wr _) p (.int .u32 ((dfk b (4 * p + t + 1) p : Nat) : Int)))) (by rw [List.mem_singleton]; exact hgw)
      have cn := c0.new (Chg.of (gb_set (gb_refl wr _) p (.int .u32 ((dfk b (4 * p + t + 1) p : Nat) : Int)))) (Nat.le_refl _)
      clear b1 u0 c0 hset
      generalize hkk : 4 * p + t = k at *
      clear hkk
      go_wp2_with fail
      go_region
      go_wp2_with fail
      exact ⟨⟨k + 1, by omega, by go_num, bn.drew, un.chg ((Chg.refl _ []).drew) (by simp), cn.drew⟩, by simp [intOf]; omega⟩
    · have hkn2 : k = n := by omega
      subst hkn2
      clear hkn
      go_wp2
      go_ret
      exact ⟨w.heap.size, rfl, Nat.le_refl _, b1, c0⟩

end Go.Proofs.YthpfdnkcepfbaaaDoor
