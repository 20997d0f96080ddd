/- The tag over what is put together and filled up is the tag by parts: numbers alone, nothing of the program. -/
import Derived.Test.YtnopkojpgemldaaSePoM
set_option linter.unusedVariables false
set_option linter.unusedSimpArgs false
set_option linter.unnecessarySimpa false
namespace Go.Proofs.Ytnopkojpgemldaa
open Go.RowKit

/-- Bytes filled up with 0. -/
def fz (n : Nat) (f : Nat → Nat) : Nat → Nat := fun i => if i < n then f i else 0
/-- How many bytes that makes. -/
def pd (n : Nat) : Nat := (n + 15) / 16 * 16
theorem nle_ext (g : Nat → Nat) (m r : Nat) (h : ∀ j, m ≤ j → j < m + r → g j = 0) : nle g (m + r) = nle g m := by
  rw [nle_cut, nle_zero r (fun i hi => h (m + i) (by omega) (by omega)), Nat.zero_mul, Nat.add_zero]
theorem tks_cp {R n n' : Nat} {f f' : Nat → Nat} (A : Nat) : ∀ q, (∀ k, k < q → nle (fun i => f (16 * k + i)) (Nat.min (n - 16 * k) 16) = nle (fun i => f' (16 * k + i)) (Nat.min (n' - 16 * k) 16)) → tks R n f A q = tks R n' f' A q
  | 0, _ => rfl
  | q + 1, h => by rw [tks, tks, tks_cp A q (fun k hk => h k (by omega)), h q (by omega)]
theorem tks_pad (R n : Nat) (f : Nat → Nat) (A : Nat) : tks R n f A ((n + 15) / 16) = tks R (pd n) (fz n f) A ((n + 15) / 16) := by
  refine tks_cp A _ fun k hk => ?_
  have e2 : Nat.min (pd n - 16 * k) 16 = 16 := by unfold pd; show min _ _ = _; omega
  obtain ⟨m, hm⟩ : ∃ m, Nat.min (n - 16 * k) 16 = m := ⟨_, rfl⟩
  have hm2 : min (n - 16 * k) 16 = m := hm
  rw [e2, hm]
  obtain ⟨r, hr⟩ : ∃ r, 16 = m + r := ⟨16 - m, by omega⟩
  rw [show nle (fun i => fz n f (16 * k + i)) 16 = nle (fun i => fz n f (16 * k + i)) (m + r) by rw [← hr], nle_ext _ m r (fun j h1 h2 => by unfold fz; rw [if_neg (by omega)])]
  exact nle_eq m fun i hi => by unfold fz; rw [if_pos (by omega)]
theorem tks_cat (R p m : Nat) (F : Nat → Nat) (A : Nat) : ∀ q, tks R (16 * p + m) F A (p + q) = tks R m (fun j => F (16 * p + j)) (tks R (16 * p) F A p) q
  | 0 => by
    rw [tks, Nat.add_zero]
    refine tks_cp A _ fun k hk => ?_
    rw [show Nat.min (16 * p + m - 16 * k) 16 = 16 by show min _ _ = _; omega, show Nat.min (16 * p - 16 * k) 16 = 16 by show min _ _ = _; omega]
  | q + 1 => by
    rw [show p + (q + 1) = (p + q) + 1 by omega, tks, tks, tks_cat R p m F A q, show 16 * p + m - 16 * (p + q) = m - 16 * q by omega]
    congr 2
    refine nle_eq _ fun i _ => ?_
    show F (16 * (p + q) + i) = F (16 * p + (16 * q + i))
    rw [show 16 * (p + q) + i = 16 * p + (16 * q + i) by omega]
theorem tks_eq {R n : Nat} {f f' : Nat → Nat} (A q : Nat) (h : ∀ i, i < n → f i = f' i) : tks R n f A q = tks R n f' A q :=
  tks_cp A q fun k _ => nle_eq _ fun i hi => h _ (by have e : i < min (n - 16 * k) 16 := hi; omega)
theorem mcA_tag (K F : Nat → Nat) (n0 : Nat) (f0 : Nat → Nat) (n1 : Nat) (f1 : Nat → Nat) (h0 : ∀ i, i < pd n0 → F i = fz n0 f0 i) (h1 : ∀ i, i < pd n1 → F (pd n0 + i) = fz n1 f1 i) (h2 : ∀ i, i < 16 → F (pd n0 + pd n1 + i) = ln n0 n1 i) :
    mcA (rK K) (pd n0 + pd n1 + 16) F = tagA K n0 f0 n1 f1 := by
  obtain ⟨p, hp⟩ : ∃ p, (n0 + 15) / 16 = p := ⟨_, rfl⟩
  obtain ⟨q, hq⟩ : ∃ q, (n1 + 15) / 16 = q := ⟨_, rfl⟩
  have ep : pd n0 = 16 * p := by unfold pd; rw [hp]; omega
  have eq : pd n1 = 16 * q := by unfold pd; rw [hq]; omega
  have a0 := tks_pad (rK K) n0 f0 0
  have a1 := tks_pad (rK K) n1 f1 (tks (rK K) n0 f0 0 ((n0 + 15) / 16))
  unfold mcA tagA
  rw [if_pos (by omega), show (pd n0 + pd n1 + 16) / 16 = p + (q + 1) by omega, a1, a0, hp, hq, ep, eq, Nat.add_assoc, tks_cat, tks_cat]
  rw [ep] at h0 h1 h2
  rw [eq] at h1 h2
  rw [tks_eq 0 p h0, tks_eq (f := fun j => F (16 * p + j)) _ q h1]
  exact tks_eq (f := fun j => F (16 * p + (16 * q + j))) _ 1 (fun i hi => by rw [← h2 i hi, Nat.add_assoc])
theorem rK_cg32 {K L : Nat → Nat} (h : ∀ i, i < 32 → K i = L i) : rK K = rK L := rK_cg fun i hi => h i (by omega)
theorem tgB_cs {A : Nat} {s t : Nat → Nat} (h : ∀ i, i < 16 → s i = t i) : tgB A s = tgB A t := by
  funext i
  unfold tgB tgN
  rw [nle_eq 16 h]
/-- The tag of what is put together, under the first half of a block. -/
theorem mac_tag (k nn h F : Nat → Nat) (n0 : Nat) (f0 : Nat → Nat) (n1 : Nat) (f1 : Nat → Nat) (hh : ∀ i, i < 32 → h i = bkB (st0 k 0 nn) i) (h0 : ∀ i, i < pd n0 → F i = fz n0 f0 i) (h1 : ∀ i, i < pd n1 → F (pd n0 + i) = fz n1 f1 i) (h2 : ∀ i, i < 16 → F (pd n0 + pd n1 + i) = ln n0 n1 i) :
    macB h (pd n0 + pd n1 + 16) F = tagT k nn n0 f0 n1 f1 := by
  unfold macB tagT
  rw [rK_cg32 hh, mcA_tag _ F n0 f0 n1 f1 h0 h1 h2]
  exact tgB_cs fun i hi => hh _ (by omega)
end Go.Proofs.Ytnopkojpgemldaa
