/- seal, as numbers: what depends on the nonce's 12 bytes alone; what a box gives back. Nothing of the program. -/
import Derived.Test.YtnopkojpgemldaaSeNm
import Derived.Test.YtnopkojpgemldaaSeBy
import Derived.Test.YtnopkojpgemldaaSeUb
set_option linter.unusedVariables false
set_option linter.unusedSimpArgs false
set_option linter.unnecessarySimpa false
namespace Go.Proofs.Ytnopkojpgemldaa
open Go.RowKit

theorem le4_cg {b c : Nat → Nat} (h : ∀ j, j < 4 → b j = c j) : le4 b = le4 c := by
  unfold le4; rw [h 0 (by omega), h 1 (by omega), h 2 (by omega), h 3 (by omega)]
theorem st0_cg {k n l m : Nat → Nat} (hk : ∀ i, i < 32 → k i = l i) (ct : Nat) (h : ∀ i, i < 12 → n i = m i) : ∀ i, i < 16 → st0 k ct n i = st0 l ct m i := fun i hi => by
  unfold st0
  by_cases h4 : i < 4
  · rw [if_pos h4, if_pos h4]
  · rw [if_neg h4, if_neg h4]
    by_cases h12 : i < 12
    · rw [if_pos h12, if_pos h12]
      exact le4_cg fun j hj => hk _ (by omega)
    · rw [if_neg h12, if_neg h12]
      by_cases h13 : i = 12
      · rw [if_pos h13, if_pos h13]
      · rw [if_neg h13, if_neg h13]
        exact le4_cg fun j hj => h _ (by omega)
theorem stirs_cg {s t : Nat → Nat} (h : ∀ i, i < 16 → s i = t i) : ∀ n, ∀ i, i < 16 → stirs s n i = stirs t n i
  | 0 => h
  | n + 1 => dbl_cg (stirs_cg h n)
theorem bkB_cg {s t : Nat → Nat} (h : ∀ i, i < 16 → s i = t i) (j : Nat) (hj : j < 64) : bkB s j = bkB t j := by
  unfold bkB bkW
  rw [stirs_cg h 10 (j / 4) (by omega), h (j / 4) (by omega)]
theorem ks_cg {k n l m : Nat → Nat} (hk : ∀ i, i < 32 → k i = l i) (ct : Nat) (h : ∀ i, i < 12 → n i = m i) (i : Nat) : ks k ct n i = ks l ct m i := by
  rw [ks_eq, ks_eq, bkB_cg (st0_cg hk _ h) _ (Nat.mod_lt _ (by decide))]
theorem tagT_cgn {k n l m : Nat → Nat} (hk : ∀ i, i < 32 → k i = l i) (h : ∀ i, i < 12 → n i = m i) (n0 : Nat) {f0 g0 : Nat → Nat} (h0 : ∀ i, i < n0 → f0 i = g0 i) (n1 : Nat) {f1 g1 : Nat → Nat} (h1 : ∀ i, i < n1 → f1 i = g1 i) (i : Nat) : tagT k n n0 f0 n1 f1 i = tagT l m n0 g0 n1 g1 i := by
  unfold tagT
  rw [tagA_cg (fun j hj => bkB_cg (st0_cg hk 0 h) j (by omega)) n0 h0 n1 h1, tgB_cg _ (fun j hj => bkB_cg (st0_cg hk 0 h) (16 + j) (by omega))]
theorem eqn_cg {n : Nat} {f g f' g' : Nat → Nat} (h : ∀ i, i < n → f i = f' i) (h' : ∀ i, i < n → g i = g' i) : eqn n f g = eqn n f' g' := by
  have e : (∀ i, i < n → f i = g i) ↔ ∀ i, i < n → f' i = g' i := ⟨fun q i hi => by rw [← h i hi, ← h' i hi]; exact q i hi, fun q i hi => by rw [h i hi, h' i hi]; exact q i hi⟩
  cases e1 : eqn n f' g'
  · refine eqn_no fun q => ?_
    rw [(eqn_iff n f' g').2 (e.1 q)] at e1
    cases e1
  · exact (eqn_iff n f g).2 (e.2 ((eqn_iff n f' g').1 e1))
theorem tagged_cg {k n l m : Nat → Nat} (hk : ∀ i, i < 32 → k i = l i) (h : ∀ i, i < 12 → n i = m i) (n0 : Nat) {f0 g0 : Nat → Nat} (h0 : ∀ i, i < n0 → f0 i = g0 i) (N : Nat) {f g : Nat → Nat} (hf : ∀ i, i < N + 16 → f i = g i) : tagged k n n0 f0 N f = tagged l m n0 g0 N g := by
  unfold tagged
  exact eqn_cg (fun i hi => hf _ (by omega)) (fun i _ => tagT_cgn hk h n0 h0 N (fun i hi => hf i (by omega)) i)
section
variable (k : Nat → Nat) (nx n0 : Nat) (f0 : Nat → Nat) (n1 : Nat) (f1 : Nat → Nat)
theorem box_lo (i : Nat) (hi : i < 12) : boxB k nx n0 f0 n1 f1 i = ncB nx i := by unfold boxB cat; rw [if_pos hi]
theorem box_hi (i : Nat) : boxB k nx n0 f0 n1 f1 (12 + i) = sealB k (ncB nx) n0 f0 n1 f1 i := by unfold boxB cat; rw [if_neg (by omega), Nat.add_sub_cancel_left]
theorem nle_dig (v : Nat) (f : Nat → Nat) : ∀ n, (∀ i, i < n → f i = v / 256 ^ i % 256) → nle f n = v % 256 ^ n
  | 0, _ => by simp [nle, Nat.mod_one]
  | n + 1, h => by
    rw [nle, nle_dig v f n (fun i hi => h i (by omega)), h n (by omega), Nat.pow_succ, Nat.mod_mul, Nat.mul_comm (256 ^ n)]
theorem box_num (hx : U nx) : bxN (boxB k nx n0 f0 n1 f1) = nx := by
  unfold bxN
  rw [le8_nle, nle_dig nx _ 8 (fun i hi => by
    rw [box_lo k nx n0 f0 n1 f1 _ (by omega)]
    unfold ncB pl
    rw [if_pos (by omega), Nat.add_sub_cancel_left])]
  unfold U at hx
  exact Nat.mod_eq_of_lt (by simpa using hx)
theorem box_own (hx : U nx) : bxO (boxB k nx n0 f0 n1 f1) = true := by
  unfold bxO
  rw [box_num k nx n0 f0 n1 f1 hx, eqn_iff]
  exact fun i hi => box_lo k nx n0 f0 n1 f1 i hi
theorem box_tag : tagged k (boxB k nx n0 f0 n1 f1) n0 f0 n1 (fun i => boxB k nx n0 f0 n1 f1 (12 + i)) = true := by
  rw [tagged_cg (fun _ _ => rfl) (fun i hi => box_lo k nx n0 f0 n1 f1 i hi) n0 (fun _ _ => rfl) n1 (fun i _ => box_hi k nx n0 f0 n1 f1 i)]
  exact tagged_seal k (ncB nx) n0 f0 n1 f1
theorem box_txt (i : Nat) (hi : i < n1) : xo (fun i => boxB k nx n0 f0 n1 f1 (12 + i)) (ks k 1 (boxB k nx n0 f0 n1 f1)) i = f1 i := by
  rw [← seal_back k (ncB nx) n0 f0 n1 f1 i hi]
  show boxB k nx n0 f0 n1 f1 (12 + i) ^^^ _ = sealB k (ncB nx) n0 f0 n1 f1 i ^^^ _
  rw [box_hi, ks_cg (fun _ _ => rfl) 1 (fun i hi => box_lo k nx n0 f0 n1 f1 i hi)]
theorem box_lt (h : ∀ i, i < n1 → f1 i < 256) (i : Nat) (hi : i < n1 + 28) : boxB k nx n0 f0 n1 f1 i < 256 := by
  unfold boxB cat
  split
  · exact ncB_lt nx i
  · exact seal_lt h _ (by omega)
end
end Go.Proofs.Ytnopkojpgemldaa
