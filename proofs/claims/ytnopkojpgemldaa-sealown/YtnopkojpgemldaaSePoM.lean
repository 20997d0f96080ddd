/- Poly1305 as a polynomial, as numbers: s is added; r = 0; no bytes; r = 1. Nothing of the program. -/
import Derived.Test.YtnopkojpgemldaaSeMc
import Derived.Test.YtnopkojpgemldaaSeNm
set_option linter.unusedVariables false
set_option linter.unusedSimpArgs false
set_option linter.unnecessarySimpa false
namespace Go.Proofs.Ytnopkojpgemldaa
open Go.RowKit

theorem nle_dig2 (v : Nat) (f : Nat → Nat) : ∀ n, (∀ i, i < n → f i = v / 256 ^ i % 256) → nle f n = v % 256 ^ n
  | 0, _ => by simp [nle, Nat.mod_one]
  | n + 1, h => by
    rw [nle, nle_dig2 v f n (fun i hi => h i (by omega)), h n (by omega), Nat.pow_succ, Nat.mod_mul, Nat.mul_comm (256 ^ n)]
theorem cat_self (b : Nat → Nat) (m : Nat) : cat b m (fun j => b (m + j)) = b := by
  funext j
  unfold cat
  split
  · rfl
  · show b (m + (j - m)) = b j
    rw [show m + (j - m) = j by omega]
theorem nle_cut (b : Nat → Nat) (m n : Nat) : nle b (m + n) = nle b m + nle (fun j => b (m + j)) n * 256 ^ m := by
  have q := nle_cat b (fun j => b (m + j)) m n
  rw [cat_self] at q
  exact q
/-- Two numbers of 16 bytes added modulo 2^128, as bytes. -/
def adB (t s : Nat → Nat) (i : Nat) : Nat := (nle t 16 + nle s 16) % 340282366920938463463374607431768211456 / 256 ^ i % 256
theorem adB_lt (t s : Nat → Nat) (i : Nat) : adB t s i < 256 := Nat.mod_lt _ (by decide)
theorem nle_tgB (A : Nat) (s : Nat → Nat) : nle (tgB A s) 16 = tgN A s := by
  rw [nle_dig2 (tgN A s) (tgB A s) 16 (fun i _ => rfl)]
  have : tgN A s < 340282366920938463463374607431768211456 := Nat.mod_lt _ (by decide)
  exact Nat.mod_eq_of_lt (Nat.lt_of_lt_of_eq this (by decide))
theorem nle_zero {b : Nat → Nat} : ∀ n, (∀ i, i < n → b i = 0) → nle b n = 0
  | 0, _ => rfl
  | n + 1, h => by rw [nle, nle_zero n (fun i hi => h i (by omega)), h n (by omega), Nat.zero_mul]
/-- The bytes of a number below 2^128 are its bytes. -/
theorem dig_nle {s : Nat → Nat} (hs : ∀ i, i < 16 → s i < 256) (i : Nat) (hi : i < 16) : nle s 16 / 256 ^ i % 256 = s i := by
  have e : nle s 16 = nle s i + (s i + nle (fun j => s (i + 1 + j)) (15 - i) * 256) * 256 ^ i := by
    have q1 := nle_cut s i (16 - i)
    rw [show i + (16 - i) = 16 by omega] at q1
    have q2 := nle_cut (fun j => s (i + j)) 1 (15 - i)
    rw [show 1 + (15 - i) = 16 - i by omega] at q2
    rw [q1, q2, nle_eq (b := fun j => s (i + (1 + j))) (c := fun j => s (i + 1 + j)) (15 - i) (fun j _ => by rw [Nat.add_assoc])]
    simp [nle]
  rw [e, Nat.add_mul_div_right _ _ (Nat.pow_pos (by decide)), Nat.div_eq_of_lt (nle_lt i (fun j hj => hs j (by omega))), Nat.zero_add]
  have := hs i hi
  omega
theorem mac_add (k k' : Nat → Nat) (n : Nat) (f : Nat → Nat) (hlo : ∀ i, i < 16 → k' i = k i) (hhi : ∀ i, i < 16 → k' (16 + i) = 0) (i : Nat) : macB k n f i = adB (macB k' n f) (fun i => k (16 + i)) i := by
  unfold macB adB
  rw [nle_tgB, rK_cg (K := k') (L := k) hlo]
  unfold tgB tgN
  rw [nle_zero (b := fun i => k' (16 + i)) 16 hhi, Nat.add_zero, Nat.mod_add_mod]
theorem tks_r0 (n : Nat) (f : Nat → Nat) : ∀ q, tks 0 n f 0 q = 0
  | 0 => rfl
  | q + 1 => by rw [tks]; unfold tk; rw [Nat.mul_zero, Nat.zero_mod]
theorem mcA_r0 (n : Nat) (f : Nat → Nat) : mcA 0 n f = 0 := by
  unfold mcA
  split
  · exact tks_r0 _ _ _
  · unfold tk; rw [Nat.mul_zero, Nat.zero_mod]
theorem rK_0 {k : Nat → Nat} (h : ∀ i, i < 16 → k i = 0) : rK k = 0 := nle_zero 17 fun i _ => by
  unfold cl
  split
  · rfl
  · rw [h i (by omega)]; simp
theorem tgB_0 {s : Nat → Nat} (hs : ∀ i, i < 16 → s i < 256) (i : Nat) (hi : i < 16) : tgB 0 s i = s i := by
  unfold tgB tgN
  rw [Nat.zero_add, Nat.mod_eq_of_lt (Nat.lt_of_lt_of_eq (nle_lt 16 hs) (by decide))]
  exact dig_nle hs i hi
theorem mac_r0 {k : Nat → Nat} (h : ∀ i, i < 16 → k i = 0) (n : Nat) (f : Nat → Nat) (hs : ∀ i, i < 16 → k (16 + i) < 256) (i : Nat) (hi : i < 16) : macB k n f i = k (16 + i) := by
  unfold macB
  rw [rK_0 h, mcA_r0]
  exact tgB_0 hs i hi
theorem mac_n0 {k : Nat → Nat} (f : Nat → Nat) (hs : ∀ i, i < 16 → k (16 + i) < 256) (i : Nat) (hi : i < 16) : macB k 0 f i = k (16 + i) := by
  unfold macB
  rw [show mcA (rK k) 0 f = 0 from rfl]
  exact tgB_0 hs i hi
theorem rK_1 {k : Nat → Nat} (h0 : k 0 = 1) (h : ∀ i, 0 < i → i < 16 → k i = 0) : rK k = 1 := by
  unfold rK
  have e : nle (cl k) 17 = nle (fun i => if i = 0 then 1 else 0) 17 := nle_eq 17 fun i hi => by
    unfold cl
    by_cases h16 : 16 ≤ i
    · rw [if_pos h16, if_neg (by omega)]
    · rw [if_neg h16]
      by_cases hi0 : i = 0
      · subst hi0; simp [h0]
      · rw [h i (by omega) (by omega), if_neg hi0]; simp
  rw [e]
  decide
/-- At r = 1 the tag of a piece is the piece's number and s. -/
theorem mac_r1 {k : Nat → Nat} (h0 : k 0 = 1) (h : ∀ i, 0 < i → i < 16 → k i = 0) (n : Nat) (f : Nat → Nat) (hn : 0 < n) (hn2 : n ≤ 15) (hf : ∀ i, i < n → f i < 256) (g : Nat → Nat) (hg : nle g 16 = nle f n + 256 ^ n) (i : Nat) : macB k n f i = adB (fun i => k (16 + i)) g i := by
  unfold macB adB tgB tgN
  rw [rK_1 h0 h]
  have e : mcA 1 n f = nle f n + 256 ^ n := by
    unfold mcA
    rw [if_neg (by omega), show n / 16 = 0 by omega, show n % 16 = n by omega, Nat.zero_mul]
    simp only [Nat.zero_add]
    show tk 0 1 (nle f n + 256 ^ n) = _
    unfold tk
    rw [Nat.zero_add, Nat.mul_one]
    have q := nle_lt n hf
    have p : (256 : Nat) ^ n ≤ 256 ^ 15 := Nat.pow_le_pow_right (by decide) hn2
    refine Nat.mod_eq_of_lt ?_
    unfold PP
    simp only [Nat.reducePow] at p
    omega
  rw [e, ← hg, Nat.add_comm]
end Go.Proofs.Ytnopkojpgemldaa
