/- Fermat and Euler modulo the order: powers. -/
import Derived.Test.YtcdgkhejbdlapabMath
import Derived.Test.YtcdgkhejbdlapabFun2
import Derived.Test.YtcdgkhejbdlapabFieldOps
set_option linter.unusedVariables false
set_option linter.unusedSimpArgs false
set_option linter.unnecessarySimpa false
namespace Go.Proofs.Ytcdgkhejbdlapab
open Go.RowKit N

theorem mmL (x : Int) : x % L % L = x % L := Int.emod_emod_of_dvd _ (Int.dvd_refl L)
theorem loL (x : Int) : 0 ≤ x % L := Int.emod_nonneg _ (by decide)
theorem dvd_prodL {x y : Int} (h : (x * y) % L = 0) : x % L = 0 ∨ y % L = 0 := by
  have hd : L ∣ x * y := Int.dvd_of_emod_eq_zero h
  have h1 : LN ∣ x.natAbs * y.natAbs := by
    rw [← Int.natAbs_mul]
    have := Int.natAbs_dvd_natAbs.2 hd
    rw [← LN_eq] at this
    exact this
  have back : ∀ z : Int, LN ∣ z.natAbs → z % L = 0 := fun z hz => by
    apply Int.emod_eq_zero_of_dvd
    rw [← LN_eq]
    exact Int.ofNat_dvd_left.2 hz
  rcases Pr.euclid pr_l h1 with h2 | h2
  · exact Or.inl (back x h2)
  · exact Or.inr (back y h2)
theorem eq_of_subL {x y : Int} (h : (x - y) % L = 0) : x % L = y % L := Int.emod_eq_emod_iff_emod_sub_eq_zero.2 h
theorem sub_of_eqL {x y : Int} (h : x % L = y % L) : (x - y) % L = 0 := Int.emod_eq_emod_iff_emod_sub_eq_zero.1 h
theorem sq_casesL {x y : Int} (h : (x * x) % L = (y * y) % L) : x % L = y % L ∨ x % L = -y % L := by
  have h1 := sub_of_eqL h
  have e : x * x - y * y = (x - y) * (x + y) := by grind
  rw [e] at h1
  rcases dvd_prodL h1 with h2 | h2
  · exact Or.inl (eq_of_subL h2)
  · exact Or.inr (eq_of_subL (by rw [Int.sub_neg]; exact h2))
theorem pow_modL (x : Int) : ∀ b : Nat, ((x % L) ^ b) % L = x ^ b % L
  | 0 => by rw [Int.pow_zero, Int.pow_zero]
  | b + 1 => by rw [Int.pow_succ, Int.pow_succ, m_mul_r, Int.mul_emod, pow_modL x b, ← Int.mul_emod]
theorem pw_modL (x : Int) (k : Nat) : pw (x % L) k = pw x k := by unfold pw; exact pow_modL x k
theorem pw_pwL (n : Int) (a b c : Nat) (h : a * b = c) : pw (pw n a) b = pw n c := by unfold pw; rw [pow_modL, ← Int.pow_mul, h]
theorem pw_prodL (x y : Int) (k : Nat) : pw (x * y) k = pw x k * pw y k % L := by
  unfold pw
  rw [Int.mul_pow, ← Int.mul_emod]
theorem pw_selfL (n : Int) (k : Nat) : pw n k % L = pw n k := mmL _
theorem pw_unitL (x : Int) (h : x % L ≠ 0) : pw x 7237005577332262213973186563042994240857116359379907606001950938285454250988 = 1 := by
  rw [← pw_modL]
  obtain ⟨n, hn⟩ := Int.eq_ofNat_of_zero_le (loL x)
  rw [hn]
  refine pw_last n (fun hd => h ?_)
  rw [hn]
  have := (mod_zero_iff n).2 hd
  rw [← hn, mmL] at this
  rw [← hn]
  exact this
theorem pw_noughtL (x : Int) (k : Nat) (hk : k ≠ 0) (h : x % L = 0) : pw x k = 0 := by
  rw [← pw_modL, h]
  exact pw_none 0 k hk (Nat.dvd_zero _)
/-- a to (L - 1) / 2. -/
def eu (a : Int) : Int := pw a 3618502788666131106986593281521497120428558179689953803000975469142727125494
theorem eu_cases (a : Int) : eu a = 0 ∨ eu a = 1 ∨ eu a = -1 % L := by
  unfold eu
  by_cases h : a % L = 0
  · exact Or.inl (pw_noughtL a _ (by decide +kernel) h)
  · have k := pw_mul a 3618502788666131106986593281521497120428558179689953803000975469142727125494 3618502788666131106986593281521497120428558179689953803000975469142727125494 7237005577332262213973186563042994240857116359379907606001950938285454250988 (by decide +kernel)
    rw [pw_unitL a h] at k
    have hs := pw_selfL a 3618502788666131106986593281521497120428558179689953803000975469142727125494
    rcases sq_casesL (x := pw a 3618502788666131106986593281521497120428558179689953803000975469142727125494) (y := 1) (by rw [k]; decide) with h1 | h1
    · rw [hs] at h1; exact Or.inr (Or.inl h1)
    · rw [hs] at h1; exact Or.inr (Or.inr h1)
theorem eu_mul (a b : Int) : eu (a * b % L) = eu a * eu b % L := by unfold eu; rw [pw_modL, pw_prodL]
theorem leg_eu (a : Int) : (eu a = 1 → leg a = 1) ∧ (eu a = 0 → leg a = 0) ∧ (eu a = -1 % L → leg a = -1) := by
  have e0 : eqn (eu a) 0 = decide (eu a = 0) := eqn_eq (pw_rl _ _) ⟨by decide, by decide⟩
  have e1 : eqn (eu a) 1 = decide (eu a = 1) := eqn_eq (pw_rl _ _) ⟨by decide, by decide⟩
  unfold leg
  show (eu a = 1 → (if eqn (eu a) 0 then (0 : Int) else if eqn (eu a) 1 then 1 else -1) = 1) ∧ (eu a = 0 → (if eqn (eu a) 0 then (0 : Int) else if eqn (eu a) 1 then 1 else -1) = 0) ∧ (eu a = -1 % L → (if eqn (eu a) 0 then (0 : Int) else if eqn (eu a) 1 then 1 else -1) = -1)
  rw [e0, e1]
  refine ⟨fun h => ?_, fun h => ?_, fun h => ?_⟩
  · rw [h]; rfl
  · rw [h]; rfl
  · rw [h, decide_eq_false (by decide +kernel), decide_eq_false (by decide +kernel)]; rfl
theorem leg_mul (a b : Int) : leg (a * b % L) = leg a * leg b := by
  have hm := eu_mul a b
  obtain ⟨a1, a0, am⟩ := leg_eu a
  obtain ⟨b1, b0, bm⟩ := leg_eu b
  obtain ⟨c1, c0, cm⟩ := leg_eu (a * b % L)
  rcases eu_cases a with h | h | h <;> rcases eu_cases b with k | k | k <;> rw [h, k] at hm
  · rw [c0 (hm.trans (by decide)), a0 h, b0 k]; rfl
  · rw [c0 (hm.trans (by decide)), a0 h, b1 k]; rfl
  · rw [c0 (hm.trans (by decide +kernel)), a0 h, bm k]; rfl
  · rw [c0 (hm.trans (by decide)), a1 h, b0 k]; rfl
  · rw [c1 (hm.trans (by decide)), a1 h, b1 k]; rfl
  · rw [cm (hm.trans (by decide +kernel)), a1 h, bm k]; rfl
  · rw [c0 (hm.trans (by decide +kernel)), am h, b0 k]; rfl
  · rw [cm (hm.trans (by decide +kernel)), am h, b1 k]; rfl
  · rw [c1 (hm.trans (by decide +kernel)), am h, bm k]; rfl
theorem leg_sq (a : Int) : leg (a * a % L) = 0 ∨ leg (a * a % L) = 1 := by
  rw [leg_mul]
  obtain ⟨a1, a0, am⟩ := leg_eu a
  rcases eu_cases a with h | h | h
  · rw [a0 h]; exact Or.inl rfl
  · rw [a1 h]; exact Or.inr rfl
  · rw [am h]; exact Or.inr rfl
/-- What the law wants of the half power, by Legendre's answer. -/
theorem leg_cases (a : Int) : (leg a = 0 ∧ eu a = 0) ∨ (leg a = 1 ∧ eu a = 1) ∨ (leg a = -1 ∧ eu a = ng 1) := by
  obtain ⟨a1, a0, am⟩ := leg_eu a
  rcases eu_cases a with h | h | h
  · exact Or.inl ⟨a0 h, h⟩
  · exact Or.inr (Or.inl ⟨a1 h, h⟩)
  · exact Or.inr (Or.inr ⟨am h, h⟩)
end Go.Proofs.Ytcdgkhejbdlapab
