/- Signed digits: they come back, are as they must be, and few. -/
import Derived.Test.YtcdgkhejbdlapabDgs
set_option linter.unusedVariables false
set_option linter.unusedSimpArgs false
set_option linter.unnecessarySimpa false
namespace Go.Proofs.Ytcdgkhejbdlapab
open Go.RowKit N

/-- The number of the first k digits f of radix R. -/
def sg (f : Nat → Int) (R : Int) : Nat → Int
  | 0 => 0
  | k + 1 => sg f R k + f k * R ^ k
theorem sg16 (n : Nat) : ∀ k, k ≤ 63 → sg (dd n) 16 k + 16 ^ k * ((dc n k : Nat) : Int) = ((n % 16 ^ k : Nat) : Int)
  | 0, _ => by
    show (0 : Int) + 16 ^ 0 * ((0 : Nat) : Int) = ((n % 16 ^ 0 : Nat) : Int)
    rw [Nat.pow_zero, Nat.mod_one]; rfl
  | k + 1, h => by
    have ih := sg16 n k (by omega)
    have hd : dd n k = ((win n (4 * k) 4 + dc n k : Nat) : Int) - 16 * ((dc n (k + 1) : Nat) : Int) := by unfold dd; rw [if_pos (by omega)]
    have hw : win n (4 * k) 4 = n / 16 ^ k % 16 := by unfold win; rw [Nat.pow_mul]
    have hm : n % 16 ^ (k + 1) = n % 16 ^ k + 16 ^ k * (n / 16 ^ k % 16) := by rw [Nat.pow_succ, Nat.mod_mul]
    show sg (dd n) 16 k + dd n k * 16 ^ k + 16 ^ (k + 1) * ((dc n (k + 1) : Nat) : Int) = _
    have hc : ((n % 16 ^ (k + 1) : Nat) : Int) = ((n % 16 ^ k : Nat) : Int) + (16 : Int) ^ k * ((n / 16 ^ k % 16 : Nat) : Int) := by rw [hm, Int.natCast_add, Int.natCast_mul, Int.natCast_pow]; rfl
    rw [hd, hw, hc, ← ih, Int.natCast_add, Int.pow_succ]
    generalize sg (dd n) 16 k = a
    generalize ((dc n k : Nat) : Int) = b
    generalize ((dc n (k + 1) : Nat) : Int) = c
    generalize ((n / 16 ^ k % 16 : Nat) : Int) = d
    generalize (16 : Int) ^ k = e
    grind
theorem sg16_all (n : Nat) (h : n < 115792089237316195423570985008687907853269984665640564039457584007913129639936) : sg (dd n) 16 64 = (n : Int) := by
  have ih := sg16 n 63 (by decide)
  have hd : dd n 63 = ((win n (4 * 63) 4 + dc n 63 : Nat) : Int) := by unfold dd; rw [if_neg (by decide)]
  have hw : win n (4 * 63) 4 = n / 16 ^ 63 % 16 := by unfold win; rw [Nat.pow_mul]
  have hm : n % 16 ^ (63 + 1) = n % 16 ^ 63 + 16 ^ 63 * (n / 16 ^ 63 % 16) := by rw [Nat.pow_succ, Nat.mod_mul]
  have hl : n % 16 ^ (63 + 1) = n := Nat.mod_eq_of_lt (Nat.lt_of_lt_of_le h (by decide))
  show sg (dd n) 16 63 + dd n 63 * 16 ^ 63 = _
  have hN : n = n % 16 ^ 63 + 16 ^ 63 * (n / 16 ^ 63 % 16) := hl.symm.trans hm
  have hc : (n : Int) = ((n % 16 ^ 63 : Nat) : Int) + (16 : Int) ^ 63 * ((n / 16 ^ 63 % 16 : Nat) : Int) := by
    have h1 := congrArg (fun x : Nat => (x : Int)) hN
    simp only [Int.natCast_add, Int.natCast_mul, Int.natCast_pow] at h1
    exact h1
  rw [hd, hw, hc, ← ih, Int.natCast_add]
  generalize sg (dd n) 16 63 = a
  generalize ((dc n 63 : Nat) : Int) = b
  generalize ((n / 16 ^ 63 % 16 : Nat) : Int) = d
  generalize (16 : Int) ^ 63 = e
  grind
theorem dd_bd (n i : Nat) (h : i < 63) : -8 ≤ dd n i ∧ dd n i ≤ 7 := by
  have h1 := win4 n i
  have h2 := dc_le n i
  have hd : dd n i = ((win n (4 * i) 4 + dc n i : Nat) : Int) - 16 * ((dc n (i + 1) : Nat) : Int) := by unfold dd; rw [if_pos h]
  have hs := dc_succ n i
  rw [hd, hs]
  generalize win n (4 * i) 4 = W at *
  generalize dc n i = c at *
  omega
theorem dd_last (n : Nat) (h : n < 14474011154664524427946373126085988481658748083205070504932198000989141204992) : 0 ≤ dd n 63 ∧ dd n 63 ≤ 2 := by
  have h2 := dc_le n 63
  have hd : dd n 63 = ((win n (4 * 63) 4 + dc n 63 : Nat) : Int) := by unfold dd; rw [if_neg (by decide)]
  have hw : win n (4 * 63) 4 ≤ 1 := by
    unfold win
    have : n / 2 ^ (4 * 63) < 2 := by rw [Nat.div_lt_iff_lt_mul (by decide)]; exact Nat.lt_of_lt_of_le h (by decide)
    exact Nat.le_trans (Nat.mod_le _ _) (by omega)
  rw [hd]
  generalize win n (4 * 63) 4 = W at *
  generalize dc n 63 = c at *
  omega

/-! ### Naf -/
/-- V is its digit and twice what is left. -/
theorem snx_val (wd V : Nat) (hw : 1 ≤ wd) : (V : Int) = sdg wd V + 2 * ((snx wd V : Nat) : Int) := by
  unfold sdg snx
  by_cases h : V % 2 = 1
  · rw [if_pos h, if_pos h]
    have e := two_pow_two wd hw
    have hd := Nat.div_add_mod V (2 ^ wd)
    have key : ∀ (q r c P Q : Nat), P = 2 * Q → P * q + r = V → (V : Int) = (r : Int) - ((c * P : Nat) : Int) + 2 * ((Q * (q + c) : Nat) : Int) := by
      intro q r c P Q h1 h2
      subst h1
      rw [← h2]
      simp only [Int.natCast_add, Int.natCast_mul]
      generalize (q : Int) = a
      generalize (r : Int) = b
      generalize (c : Int) = d
      generalize (Q : Int) = f
      grind
    exact key _ _ _ _ _ e hd
  · rw [if_neg h, if_neg h]
    omega
theorem sg2 (wd n : Nat) (hw : 1 ≤ wd) : ∀ k, (n : Int) = sg (dn wd n) 2 k + 2 ^ k * ((vn wd n k : Nat) : Int)
  | 0 => by
    show (n : Int) = 0 + 2 ^ 0 * ((n : Nat) : Int)
    rw [Int.pow_zero]; omega
  | k + 1 => by
    have ih := sg2 wd n hw k
    have hs := snx_val wd (vn wd n k) hw
    show (n : Int) = sg (dn wd n) 2 k + dn wd n k * 2 ^ k + 2 ^ (k + 1) * ((snx wd (vn wd n k) : Nat) : Int)
    have hdn : dn wd n k = sdg wd (vn wd n k) := rfl
    rw [Int.pow_succ, hdn]
    rw [hs] at ih
    generalize sg (dn wd n) 2 k = a at *
    generalize sdg wd (vn wd n k) = b at *
    generalize ((snx wd (vn wd n k) : Nat) : Int) = c at *
    generalize (2 : Int) ^ k = e at *
    grind
/-- A head: what is left there is the rest of n and a carry, that is gone at the end. -/
def Hd (wd n a : Nat) : Prop := ∃ c, c ≤ 1 ∧ vn wd n a = n / 2 ^ a + c ∧ (254 ≤ a → c = 0)
theorem small_hi (n a k : Nat) (hn : n < 14474011154664524427946373126085988481658748083205070504932198000989141204992) (h : 253 ≤ a + k) : n / 2 ^ a < 2 ^ k := by
  rw [Nat.div_lt_iff_lt_mul (Nat.pow_pos (by decide)), ← Nat.pow_add]
  refine Nat.lt_of_lt_of_le hn ?_
  rw [show (14474011154664524427946373126085988481658748083205070504932198000989141204992 : Nat) = 2 ^ 253 from by decide]
  exact Nat.pow_le_pow_right (by decide) (by omega)
theorem hd_step (wd n a : Nat) (hw1 : 2 ≤ wd) (hn : n < 14474011154664524427946373126085988481658748083205070504932198000989141204992) (h : Hd wd n a) :
    ∃ b, a < b ∧ b ≤ a + wd ∧ Hd wd n b ∧ ∃ k, vn wd n (a + 1) = 2 ^ k * vn wd n b ∧ a + 1 + k = b := by
  obtain ⟨c, hc, hv, hz⟩ := h
  rcases Nat.mod_two_eq_zero_or_one (win n a wd + c) with he | ho
  · obtain ⟨_, h2⟩ := naf_even n a c wd hc (by omega) hv he
    refine ⟨a + 1, by omega, by omega, ⟨c, hc, h2, fun h254 => ?_⟩, 0, by rw [Nat.pow_zero, Nat.one_mul], rfl⟩
    have h0 := small_hi n a 0 hn (by omega)
    rw [win_par n a wd c (by omega)] at he
    generalize n / 2 ^ a = q at *
    simp at h0
    omega
  · obtain ⟨h1, h2, _, _, h5⟩ := naf_odd n a c wd _ _ hc (by omega) hv rfl ho rfl
    refine ⟨a + wd, by omega, by omega, ⟨_, h2, h5, fun h254 => ?_⟩, wd - 1, ?_, by omega⟩
    · have h0 := small_hi n a (wd - 1) hn (by omega)
      have e := two_pow_two (wd - 1) (by omega)
      have hw : win n a wd = n / 2 ^ a := by
        unfold win
        exact Nat.mod_eq_of_lt (Nat.lt_of_lt_of_le h0 (Nat.pow_le_pow_right (by decide) (by omega)))
      rw [hw] at ho h1 h2 ⊢
      refine Nat.div_eq_of_lt ?_
      generalize n / 2 ^ a = q at *
      generalize 2 ^ (wd - 1) = Q at *
      generalize 2 ^ (wd - 1 - 1) = T at *
      omega
    · have e1 : vn wd n (a + 1) = snx wd (vn wd n a) := rfl
      have hodd : vn wd n a % 2 = 1 := by rw [hv, ← win_par n a wd c (by omega)]; exact ho
      have e2 : snx wd (vn wd n a) = 2 ^ (wd - 1) * (vn wd n a / 2 ^ wd + vn wd n a % 2 ^ wd / 2 ^ (wd - 1)) := by unfold snx; rw [if_pos hodd]
      have r := (vn_run wd n (a + 1) _ 0 (wd - 1) (by rw [e1, e2, Nat.zero_add])).1
      rw [show a + 1 + (wd - 1) = a + wd by omega, Nat.pow_zero, Nat.one_mul] at r
      rw [e1, e2, r]
theorem vn_256 (wd n : Nat) (hw1 : 2 ≤ wd) (hn : n < 14474011154664524427946373126085988481658748083205070504932198000989141204992) : vn wd n 256 = 0 := by
  have key : ∀ (f a : Nat), 256 ≤ a + f → a ≤ 256 → Hd wd n a → vn wd n 256 = 0 := by
    intro f
    induction f with
    | zero =>
      intro a h1 h2 h
      obtain rfl : a = 256 := by omega
      obtain ⟨c, _, hv, hz⟩ := h
      have h0 := small_hi n 256 0 hn (by omega)
      rw [hv, hz (by omega)]
      simp at h0 ⊢
      omega
    | succ f ih =>
      intro a h1 h2 h
      by_cases h256 : a = 256
      · subst h256
        obtain ⟨c, _, hv, hz⟩ := h
        have h0 := small_hi n 256 0 hn (by omega)
        rw [hv, hz (by omega)]
        simp at h0 ⊢
        omega
      · obtain ⟨b, hb1, hb2, hb, k, hk, hk2⟩ := hd_step wd n a hw1 hn h
        by_cases hb3 : b ≤ 256
        · exact ih b (by omega) hb3 hb
        · obtain ⟨c, _, hv, hz⟩ := hb
          have h0 := small_hi n b 0 hn (by omega)
          have hb0 : vn wd n b = 0 := by
            rw [hv, hz (by omega)]
            simp at h0 ⊢
            omega
          rw [hb0, Nat.mul_zero] at hk
          have r := (vn_run wd n (a + 1) 0 0 (256 - (a + 1)) (by rw [hk, Nat.mul_zero])).1
          rw [show a + 1 + (256 - (a + 1)) = 256 by omega, Nat.mul_zero] at r
          exact r
  exact key 256 0 (by omega) (by omega) ⟨0, by omega, by show n = _; simp, fun _ => rfl⟩
theorem sg2_all (wd n : Nat) (hw1 : 2 ≤ wd) (hn : n < 14474011154664524427946373126085988481658748083205070504932198000989141204992) : sg (dn wd n) 2 256 = (n : Int) := by
  have h := sg2 wd n (by omega) 256
  rw [vn_256 wd n hw1 hn] at h
  simp at h
  exact h.symm
/-- A digit that is not 0 is odd and small, and alone. -/
theorem dn_odd (wd n i : Nat) (hw1 : 2 ≤ wd) (h : dn wd n i ≠ 0) : dn wd n i % 2 = 1 ∧ dn wd n i < ((2 ^ (wd - 1) : Nat) : Int) ∧ -((2 ^ (wd - 1) : Nat) : Int) < dn wd n i ∧ vn wd n i % 2 = 1 ∧ ∀ j, 1 ≤ j → j < wd → dn wd n (i + j) = 0 := by
  have hdn : dn wd n i = sdg wd (vn wd n i) := rfl
  by_cases ho : vn wd n i % 2 = 1
  · have e1 : vn wd n (i + 1) = snx wd (vn wd n i) := rfl
    have e2 : snx wd (vn wd n i) = 2 ^ (wd - 1) * (vn wd n i / 2 ^ wd + vn wd n i % 2 ^ wd / 2 ^ (wd - 1)) := by unfold snx; rw [if_pos ho]
    have hz := (vn_run wd n (i + 1) _ 0 (wd - 1) (by rw [e1, e2, Nat.zero_add])).2
    have hs : sdg wd (vn wd n i) = ((vn wd n i % 2 ^ wd : Nat) : Int) - ((vn wd n i % 2 ^ wd / 2 ^ (wd - 1) * 2 ^ wd : Nat) : Int) := by unfold sdg; rw [if_pos ho]
    have e := two_pow_two wd (by omega)
    have e' := two_pow_two (wd - 1) (by omega)
    have hr : vn wd n i % 2 ^ wd < 2 ^ wd := Nat.mod_lt _ (Nat.pow_pos (by decide))
    have hro : vn wd n i % 2 ^ wd % 2 = 1 := by rw [Nat.mod_mod_of_dvd _ ⟨_, e⟩]; exact ho
    have hQ : 0 < 2 ^ (wd - 1) := Nat.pow_pos (by decide)
    have key : ∀ r P Q T : Nat, r < P → r % 2 = 1 → 0 < Q → P = 2 * Q → Q = 2 * T → (((r : Nat) : Int) - ((r / Q * P : Nat) : Int)) % 2 = 1 ∧ ((r : Nat) : Int) - ((r / Q * P : Nat) : Int) < (Q : Int) ∧ -(Q : Int) < ((r : Nat) : Int) - ((r / Q * P : Nat) : Int) := by
      intro r P Q T h1 h2 h3 h4 h5
      have hc : r / Q < 2 := by rw [Nat.div_lt_iff_lt_mul h3]; omega
      have hcm := Nat.div_add_mod r Q
      have hcl := Nat.mod_lt r h3
      generalize r / Q = c at *
      have hcs : c = 0 ∨ c = 1 := by omega
      rcases hcs with rfl | rfl
      · omega
      · omega
    obtain ⟨k1, k2, k3⟩ := key _ _ _ _ hr hro hQ e e'
    rw [hdn, hs]
    refine ⟨k1, k2, k3, ho, fun j h1 h2 => ?_⟩
    have hzj := hz (j - 1) (by omega)
    rw [show i + 1 + (j - 1) = i + j by omega] at hzj
    exact hzj
  · exact absurd (by rw [hdn]; unfold sdg; rw [if_neg ho]) h
/-! ### Few -/
def pcn : Nat → Nat → Nat
  | 0, _ => 0
  | k + 1, V => V % 2 + pcn k (V / 2)
theorem pcn_inc : ∀ (k q : Nat), pcn k (q + 1) ≤ pcn k q + 1
  | 0, _ => by unfold pcn; omega
  | k + 1, q => by
    show (q + 1) % 2 + pcn k ((q + 1) / 2) ≤ q % 2 + pcn k (q / 2) + 1
    rcases Nat.mod_two_eq_zero_or_one q with h | h
    · rw [show (q + 1) / 2 = q / 2 by omega]; omega
    · rw [show (q + 1) / 2 = q / 2 + 1 by omega]
      have := pcn_inc k (q / 2)
      omega
theorem pcn_split : ∀ (w k q r : Nat), r < 2 ^ w → pcn (w + k) (2 ^ w * q + r) = pcn w r + pcn k q
  | 0, k, q, r, h => by
    have hr : r = 0 := by simp at h; omega
    subst hr
    show pcn (0 + k) (2 ^ 0 * q + 0) = 0 + pcn k q
    rw [Nat.pow_zero, Nat.one_mul, Nat.add_zero, Nat.zero_add, Nat.zero_add]
  | w + 1, k, q, r, h => by
    have e : 2 ^ (w + 1) * q = 2 * (2 ^ w * q) := by rw [Nat.pow_succ, Nat.mul_comm (2 ^ w) 2, Nat.mul_assoc]
    have h2 : r / 2 < 2 ^ w := by rw [Nat.pow_succ] at h; omega
    rw [show w + 1 + k = (w + k) + 1 by omega]
    show (2 ^ (w + 1) * q + r) % 2 + pcn (w + k) ((2 ^ (w + 1) * q + r) / 2) = r % 2 + pcn w (r / 2) + pcn k q
    rw [e, show (2 * (2 ^ w * q) + r) % 2 = r % 2 by omega, show (2 * (2 ^ w * q) + r) / 2 = 2 ^ w * q + r / 2 by omega, pcn_split w k q (r / 2) h2]
    omega
theorem pcn_zero : ∀ k, pcn k 0 = 0
  | 0 => rfl
  | k + 1 => by show 0 % 2 + pcn k (0 / 2) = 0; rw [Nat.zero_div, pcn_zero k]
theorem pcn_mul (w k m : Nat) : pcn (w + k) (2 ^ w * m) = pcn k m := by
  have h := pcn_split w k m 0 (Nat.pow_pos (by decide))
  rw [Nat.add_zero, pcn_zero, Nat.zero_add] at h
  exact h
theorem pcn_low : ∀ (k w m : Nat), k ≤ w → pcn k (2 ^ w * m) = 0
  | 0, _, _, _ => rfl
  | k + 1, 0, _, h => by omega
  | k + 1, w + 1, m, h => by
    have e : 2 ^ (w + 1) * m = 2 * (2 ^ w * m) := by rw [Nat.pow_succ, Nat.mul_comm (2 ^ w) 2, Nat.mul_assoc]
    show (2 ^ (w + 1) * m) % 2 + pcn k ((2 ^ (w + 1) * m) / 2) = 0
    rw [e, show (2 * (2 ^ w * m)) % 2 = 0 by omega, show (2 * (2 ^ w * m)) / 2 = 2 ^ w * m by omega, pcn_low k w m (by omega)]
theorem pcn_one (w r : Nat) (hw : 1 ≤ w) (h : r % 2 = 1) : 1 ≤ pcn w r := by
  obtain ⟨k, rfl⟩ : ∃ k, w = k + 1 := ⟨w - 1, by omega⟩
  show 1 ≤ r % 2 + pcn k (r / 2)
  omega
theorem pcn_top : ∀ (w r : Nat), 1 ≤ w → r < 2 ^ w → 2 ^ (w - 1) ≤ r → 1 ≤ pcn w r
  | 0, _, h, _, _ => by omega
  | 1, r, _, h1, h2 => by
    simp at h1 h2
    obtain rfl : r = 1 := by omega
    decide
  | w + 2, r, _, h1, h2 => by
    have e1 : 2 ^ (w + 2) = 2 * 2 ^ (w + 1) := by rw [Nat.pow_succ, Nat.mul_comm]
    have e2 : 2 ^ (w + 1) = 2 * 2 ^ w := by rw [Nat.pow_succ, Nat.mul_comm]
    rw [show w + 2 - 1 = w + 1 by omega] at h2
    have := pcn_top (w + 1) (r / 2) (by omega) (by omega) (by rw [show w + 1 - 1 = w by omega]; omega)
    show 1 ≤ r % 2 + pcn (w + 1) (r / 2)
    omega
theorem pcn_two (w r : Nat) (hw : 2 ≤ w) (h : r % 2 = 1) (h1 : r < 2 ^ w) (h2 : 2 ^ (w - 1) ≤ r) : 2 ≤ pcn w r := by
  obtain ⟨k, rfl⟩ : ∃ k, w = k + 2 := ⟨w - 2, by omega⟩
  have e1 : 2 ^ (k + 2) = 2 * 2 ^ (k + 1) := by rw [Nat.pow_succ, Nat.mul_comm]
  have e2 : 2 ^ (k + 1) = 2 * 2 ^ k := by rw [Nat.pow_succ, Nat.mul_comm]
  rw [show k + 2 - 1 = k + 1 by omega] at h2
  have := pcn_top (k + 1) (r / 2) (by omega) (by omega) (by rw [show k + 1 - 1 = k by omega]; omega)
  show 2 ≤ r % 2 + pcn (k + 1) (r / 2)
  omega
theorem pcn_snx (wd V k : Nat) (hw1 : 2 ≤ wd) : pcn k (snx wd V) + V % 2 ≤ pcn (k + 1) V := by
  rcases Nat.mod_two_eq_zero_or_one V with h | h
  · have e : snx wd V = V / 2 := by unfold snx; rw [if_neg (by omega)]
    rw [e]
    show _ ≤ V % 2 + pcn k (V / 2)
    omega
  · have e : snx wd V = 2 ^ (wd - 1) * (V / 2 ^ wd + V % 2 ^ wd / 2 ^ (wd - 1)) := by unfold snx; rw [if_pos h]
    rw [e, h]
    have e2 := two_pow_two wd (by omega)
    have hr : V % 2 ^ wd < 2 ^ wd := Nat.mod_lt _ (Nat.pow_pos (by decide))
    have hro : V % 2 ^ wd % 2 = 1 := by rw [Nat.mod_mod_of_dvd _ ⟨_, e2⟩]; exact h
    have hd := Nat.div_add_mod V (2 ^ wd)
    by_cases hk : wd - 1 ≤ k
    · obtain ⟨j, rfl⟩ : ∃ j, k = (wd - 1) + j := ⟨k - (wd - 1), by omega⟩
      rw [pcn_mul, show wd - 1 + j + 1 = wd + j by omega]
      have hs := pcn_split wd j (V / 2 ^ wd) (V % 2 ^ wd) hr
      rw [hd] at hs
      rw [hs]
      by_cases hc : 2 ^ (wd - 1) ≤ V % 2 ^ wd
      · have h2 := pcn_two wd _ hw1 hro hr hc
        have hc1 : V % 2 ^ wd / 2 ^ (wd - 1) = 1 := by
          have hQ : 0 < 2 ^ (wd - 1) := Nat.pow_pos (by decide)
          have a1 : V % 2 ^ wd / 2 ^ (wd - 1) < 2 := by rw [Nat.div_lt_iff_lt_mul hQ, ← e2]; exact hr
          have a2 : 1 ≤ V % 2 ^ wd / 2 ^ (wd - 1) := by rw [Nat.le_div_iff_mul_le hQ, Nat.one_mul]; exact hc
          omega
        rw [hc1]
        have := pcn_inc j (V / 2 ^ wd)
        omega
      · have hc0 : V % 2 ^ wd / 2 ^ (wd - 1) = 0 := Nat.div_eq_of_lt (Nat.lt_of_not_le hc)
        simp only [hc0, Nat.add_zero]
        have := pcn_one wd (V % 2 ^ wd) (by omega) hro
        omega
    · rw [pcn_low k (wd - 1) _ (by omega)]
      have := pcn_one (k + 1) V (by omega) h
      omega
/-- How many of the first i digits are not 0. -/
def cz (f : Nat → Int) : Nat → Nat
  | 0 => 0
  | i + 1 => cz f i + (if f i = 0 then 0 else 1)
theorem cz_le (wd n : Nat) (hw1 : 2 ≤ wd) : ∀ i, ∀ k, cz (dn wd n) i + pcn k (vn wd n i) ≤ pcn (k + i) n
  | 0, k => by show 0 + pcn k n ≤ pcn (k + 0) n; rw [Nat.zero_add, Nat.add_zero]; exact Nat.le_refl _
  | i + 1, k => by
    have ih := cz_le wd n hw1 i (k + 1)
    have h := pcn_snx wd (vn wd n i) k hw1
    show cz (dn wd n) i + (if dn wd n i = 0 then 0 else 1) + pcn k (snx wd (vn wd n i)) ≤ _
    rw [show k + (i + 1) = k + 1 + i by omega]
    by_cases hz : dn wd n i = 0
    · rw [if_pos hz]; omega
    · rw [if_neg hz]
      have := (dn_odd wd n i hw1 hz).2.2.2.1
      omega
theorem cz_all (wd n : Nat) (hw1 : 2 ≤ wd) : cz (dn wd n) 256 ≤ pcn 256 n := by
  have h := cz_le wd n hw1 256 0
  have e : ∀ x, pcn 0 x = 0 := fun _ => rfl
  rw [e, Nat.zero_add, Nat.add_zero] at h
  exact h
/-- The bits from the lowest on. -/
def bs2 (n : Nat) : Nat → Nat
  | 0 => 0
  | i + 1 => bs2 n i + n / 2 ^ i % 2
theorem bs2_pcn (n : Nat) : ∀ i k, bs2 n i + pcn k (n / 2 ^ i) = pcn (i + k) n
  | 0, k => by show 0 + pcn k (n / 2 ^ 0) = _; rw [Nat.pow_zero, Nat.div_one, Nat.zero_add, Nat.zero_add]
  | i + 1, k => by
    have ih := bs2_pcn n i (k + 1)
    have e : pcn (k + 1) (n / 2 ^ i) = n / 2 ^ i % 2 + pcn k (n / 2 ^ i / 2) := rfl
    rw [e, Nat.div_div_eq_div_mul, ← Nat.pow_succ] at ih
    show bs2 n i + n / 2 ^ i % 2 + pcn k (n / 2 ^ (i + 1)) = _
    rw [show i + 1 + k = i + (k + 1) by omega, Nat.add_assoc]
    exact ih
theorem bs2_all (n : Nat) : bs2 n 256 = pcn 256 n := by
  have h := bs2_pcn n 256 0
  have e : ∀ x, pcn 0 x = 0 := fun _ => rfl
  rw [e, Nat.add_zero, Nat.add_zero] at h
  exact h
end Go.Proofs.Ytcdgkhejbdlapab
