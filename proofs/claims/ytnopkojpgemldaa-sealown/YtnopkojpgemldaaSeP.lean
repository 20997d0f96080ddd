/- Poly1305 as numbers. Nothing of the program. -/
import Derived.Test.YtnopkojpgemldaaSeA
set_option linter.unusedVariables false
set_option linter.unusedSimpArgs false
set_option linter.unnecessarySimpa false
namespace Go.Proofs.Ytnopkojpgemldaa
open Go.RowKit

/-- The number of n bytes, the lowest first. -/
def nle (b : Nat → Nat) : Nat → Nat
  | 0 => 0
  | n + 1 => nle b n + b n * 256 ^ n
theorem nle_lt {b : Nat → Nat} : ∀ n, (∀ i, i < n → b i < 256) → nle b n < 256 ^ n
  | 0, _ => by simp [nle]
  | n + 1, h => by
    have ih := nle_lt n (fun i hi => h i (by omega))
    have h1 := h n (by omega)
    have h2 : b n * 256 ^ n ≤ 255 * 256 ^ n := Nat.mul_le_mul_right _ (by omega)
    rw [nle, Nat.pow_succ]
    omega
theorem nle_eq {b c : Nat → Nat} : ∀ n, (∀ i, i < n → b i = c i) → nle b n = nle c n
  | 0, _ => rfl
  | n + 1, h => by rw [nle, nle, nle_eq n (fun i hi => h i (by omega)), h n (by omega)]
theorem nle_cat (b c : Nat → Nat) (m : Nat) : ∀ n, nle (cat b m c) (m + n) = nle b m + nle c n * 256 ^ m
  | 0 => by
    rw [Nat.add_zero, nle_eq m (c := b) fun i hi => by unfold cat; rw [if_pos hi]]
    simp [nle]
  | n + 1 => by
    rw [← Nat.add_assoc, nle, nle_cat b c m n, nle]
    have e : cat b m c (m + n) = c n := by unfold cat; rw [if_neg (by omega), Nat.add_sub_cancel_left]
    rw [e, Nat.pow_add, Nat.add_mul, Nat.add_assoc, Nat.mul_assoc, Nat.mul_comm (256 ^ m)]
/-- Five limbs of 26 bits. -/
def lv (h : Nat → Nat) : Nat := h 0 + h 1 * 67108864 + h 2 * 4503599627370496 + h 3 * 302231454903657293676544 + h 4 * 20282409603651670423947251286016
def lb (n : Nat) (i : Nat) : Nat := n / 67108864 ^ i % 67108864
theorem lb_lt (n i : Nat) : lb n i < 67108864 := Nat.mod_lt _ (by decide)
theorem lv_lb {n : Nat} (h : n < 1361129467683753853853498429727072845824) : lv (lb n) = n := by
  unfold lv lb
  simp only [Nat.pow_zero, Nat.div_one, Nat.reducePow, Nat.pow_one]
  omega
def PP : Nat := 1361129467683753853853498429727072845819
/-- Carries. -/
def co (h : Nat → Nat) : Nat → Nat
  | 0 => 0
  | i + 1 => (co h i + h i) / 67108864
def ch (h : Nat → Nat) (i : Nat) : Nat := (co h i + h i) % 67108864
theorem ch_lt (h : Nat → Nat) (i : Nat) : ch h i < 67108864 := Nat.mod_lt _ (by decide)
theorem co_lt {h : Nat → Nat} (hh : ∀ i, i < 5 → h i < 9223372036854775808) : ∀ i, i ≤ 5 → co h i ≤ 274877906944
  | 0, _ => by simp [co]
  | i + 1, hi => by
    have h1 := co_lt hh i (by omega)
    have h2 := hh i (by omega)
    rw [co]; omega
theorem lv_ch (h : Nat → Nat) : lv h = lv (ch h) + co h 5 * 1361129467683753853853498429727072845824 := by
  have e0 : co h 0 + h 0 = ch h 0 + co h 1 * 67108864 := by simp only [ch, co]; omega
  have e1 : co h 1 + h 1 = ch h 1 + co h 2 * 67108864 := by unfold ch; rw [co.eq_2 h 1]; omega
  have e2 : co h 2 + h 2 = ch h 2 + co h 3 * 67108864 := by unfold ch; rw [co.eq_2 h 2]; omega
  have e3 : co h 3 + h 3 = ch h 3 + co h 4 * 67108864 := by unfold ch; rw [co.eq_2 h 3]; omega
  have e4 : co h 4 + h 4 = ch h 4 + co h 5 * 67108864 := by unfold ch; rw [co.eq_2 h 4]; omega
  have e : co h 0 = 0 := rfl
  unfold lv
  omega
/-- The products' sums, n products in. -/
def ps (a b : Nat → Nat) : Nat → (Nat → Nat)
  | 0 => fun _ => 0
  | n + 1 => up (ps a b n) (n / 5 + n % 5) (ps a b n (n / 5 + n % 5) + a (n / 5) * b (n % 5))
theorem ps_lt {a b : Nat → Nat} (ha : ∀ i, i < 5 → a i < 268435456) (hb : ∀ i, i < 5 → b i < 67108864) : ∀ n, n ≤ 25 → ∀ k, ps a b n k ≤ n * 18014398509481984
  | 0, _, k => by simp [ps]
  | n + 1, hn, k => by
    have ih := ps_lt ha hb n (by omega)
    have h1 := ha (n / 5) (by omega)
    have h2 := hb (n % 5) (by omega)
    have h3 : a (n / 5) * b (n % 5) ≤ 268435456 * 67108864 := Nat.mul_le_mul (by omega) (by omega)
    rw [ps]
    unfold up
    split
    · have := ih (n / 5 + n % 5); omega
    · exact Nat.le_trans (ih k) (Nat.mul_le_mul_right _ (by omega))
set_option maxRecDepth 100000 in
theorem ps_end (a b : Nat → Nat) : ps a b 25 0 = a 0 * b 0 ∧ ps a b 25 1 = a 0 * b 1 + a 1 * b 0 ∧ ps a b 25 2 = a 0 * b 2 + a 1 * b 1 + a 2 * b 0 ∧ ps a b 25 3 = a 0 * b 3 + a 1 * b 2 + a 2 * b 1 + a 3 * b 0 ∧ ps a b 25 4 = a 0 * b 4 + a 1 * b 3 + a 2 * b 2 + a 3 * b 1 + a 4 * b 0 ∧
    ps a b 25 5 = a 1 * b 4 + a 2 * b 3 + a 3 * b 2 + a 4 * b 1 ∧ ps a b 25 6 = a 2 * b 4 + a 3 * b 3 + a 4 * b 2 ∧ ps a b 25 7 = a 3 * b 4 + a 4 * b 3 ∧ ps a b 25 8 = a 4 * b 4 := by
  simp [ps, up]
/-- .. and folded, n of them. -/
def fo (s : Nat → Nat) (n : Nat) : Nat → Nat := fun k => if k < n then s k + 5 * s (5 + k) else s k
theorem fo_up (s : Nat → Nat) (n : Nat) : up (fo s n) n (s n + 5 * s (5 + n)) = fo s (n + 1) := by
  funext k
  unfold up fo
  by_cases h : k = n
  · subst h; rw [if_pos rfl, if_pos (by omega)]
  · rw [if_neg h]
    by_cases h2 : k < n
    · rw [if_pos h2, if_pos (by omega)]
    · rw [if_neg h2, if_neg (by omega)]
def ff (a b : Nat → Nat) : Nat → Nat := fo (ps a b 25) 4
theorem ff_lt {a b : Nat → Nat} (ha : ∀ i, i < 5 → a i < 268435456) (hb : ∀ i, i < 5 → b i < 67108864) (k : Nat) : ff a b k ≤ 2702159776422297600 := by
  unfold ff fo
  have h1 := ps_lt ha hb 25 (by omega) k
  have h2 := ps_lt ha hb 25 (by omega) (5 + k)
  split <;> omega
/-- The product's limbs. -/
def mu (a b : Nat → Nat) : Nat → Nat := fun i =>
  if i = 0 then (ch (ff a b) 0 + 5 * co (ff a b) 5) % 67108864 else if i = 1 then ch (ff a b) 1 + (ch (ff a b) 0 + 5 * co (ff a b) 5) / 67108864 else ch (ff a b) i
/-- As limbs are behind a product. -/
def Hm (h : Nat → Nat) : Prop := h 0 < 67108864 ∧ h 1 < 67117056 ∧ h 2 < 67108864 ∧ h 3 < 67108864 ∧ h 4 < 67108864
theorem co5_lt {a b : Nat → Nat} (ha : ∀ i, i < 5 → a i < 268435456) (hb : ∀ i, i < 5 → b i < 67108864) : co (ff a b) 5 ≤ 40265322497 := by
  have h := ff_lt ha hb
  have c1 : co (ff a b) 4 ≤ 274877906944 := co_lt (fun i _ => by have := h i; omega) 4 (by omega)
  have h4 := h 4
  rw [co.eq_2]
  omega
theorem mu_Hm {a b : Nat → Nat} (ha : ∀ i, i < 5 → a i < 268435456) (hb : ∀ i, i < 5 → b i < 67108864) : Hm (mu a b) := by
  have c := co5_lt ha hb
  have l0 := ch_lt (ff a b) 0; have l1 := ch_lt (ff a b) 1; have l2 := ch_lt (ff a b) 2; have l3 := ch_lt (ff a b) 3; have l4 := ch_lt (ff a b) 4
  refine ⟨?_, ?_, ?_, ?_, ?_⟩
  · show (ch (ff a b) 0 + 5 * co (ff a b) 5) % 67108864 < 67108864; omega
  · show ch (ff a b) 1 + (ch (ff a b) 0 + 5 * co (ff a b) 5) / 67108864 < 67117056; omega
  · exact l2
  · exact l3
  · exact l4
theorem lv_mu (a b : Nat → Nat) : lv (mu a b) % PP = lv a * lv b % PP := by
  have e1 : lv (mu a b) = lv (ch (ff a b)) + 5 * co (ff a b) 5 := by
    have m0 : mu a b 0 = (ch (ff a b) 0 + 5 * co (ff a b) 5) % 67108864 := rfl
    have m1 : mu a b 1 = ch (ff a b) 1 + (ch (ff a b) 0 + 5 * co (ff a b) 5) / 67108864 := rfl
    have m2 : mu a b 2 = ch (ff a b) 2 := rfl
    have m3 : mu a b 3 = ch (ff a b) 3 := rfl
    have m4 : mu a b 4 = ch (ff a b) 4 := rfl
    unfold lv
    rw [m0, m1, m2, m3, m4]
    omega
  have e2 := lv_ch (ff a b)
  have e3 : lv a * lv b = lv (ff a b) + PP * (ps a b 25 5 + ps a b 25 6 * 67108864 + ps a b 25 7 * 4503599627370496 + ps a b 25 8 * 302231454903657293676544) := by
    obtain ⟨p0, p1, p2, p3, p4, p5, p6, p7, p8⟩ := ps_end a b
    have f0 : ff a b 0 = ps a b 25 0 + 5 * ps a b 25 5 := rfl
    have f1 : ff a b 1 = ps a b 25 1 + 5 * ps a b 25 6 := rfl
    have f2 : ff a b 2 = ps a b 25 2 + 5 * ps a b 25 7 := rfl
    have f3 : ff a b 3 = ps a b 25 3 + 5 * ps a b 25 8 := rfl
    have f4 : ff a b 4 = ps a b 25 4 := rfl
    unfold lv PP
    rw [f0, f1, f2, f3, f4, p0, p1, p2, p3, p4, p5, p6, p7, p8]
    grind
  rw [e3, Nat.add_mul_mod_self_left, e1, e2]
  have e4 : lv (ch (ff a b)) + co (ff a b) 5 * 1361129467683753853853498429727072845824 = lv (ch (ff a b)) + 5 * co (ff a b) 5 + PP * co (ff a b) 5 := by unfold PP; omega
  rw [e4, Nat.add_mul_mod_self_left]
/-- The lowest form. -/
theorem low_val {h : Nat → Nat} (hh : Hm h) : ∃ v, v = lv (ch h) + 5 * co h 5 ∧ v < 1361129467683753853853498429727072845824 ∧ v % PP = lv h % PP := by
  refine ⟨_, rfl, ?_, ?_⟩
  · obtain ⟨h0, h1, h2, h3, h4⟩ := hh
    have e := lv_ch h
    have l0 := ch_lt h 0; have l1 := ch_lt h 1; have l2 := ch_lt h 2; have l3 := ch_lt h 3; have l4 := ch_lt h 4
    have hb : lv h < 1361129467683753853853498429727072845824 + 549755813888 := by unfold lv; omega
    have hc : lv (ch h) < 1361129467683753853853498429727072845824 := by unfold lv; omega
    omega
  · rw [lv_ch h]
    have e4 : lv (ch h) + co h 5 * 1361129467683753853853498429727072845824 = lv (ch h) + 5 * co h 5 + PP * co h 5 := by unfold PP; omega
    rw [e4, Nat.add_mul_mod_self_left]
end Go.Proofs.Ytnopkojpgemldaa
