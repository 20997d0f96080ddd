/- Power by the halved prime's bytes, and by the prime's: Fermat and Euler as the law asks them. -/
import Derived.Test.YtialljmkkichiabPrime
import Derived.Test.YtialljmkkichiabRoots
set_option linter.unusedVariables false
set_option linter.unusedSimpArgs false
set_option linter.unnecessarySimpa false
namespace Go.Proofs.Ytialljmkkichiab
open Go.RowKit N

/-- The bytes of P less so much. -/
def pf (less : Int) (i : Nat) : Int := if i = 0 then 237 - less else if i = 31 then 127 else 255
theorem pf_bd (less : Int) (h0 : 0 ≤ less) (h1 : less ≤ 237) (i : Nat) : 0 ≤ pf less i ∧ pf less i < 256 := by
  unfold pf
  split
  · omega
  · split <;> omega
theorem hv_bd (f : Nat → Int) (hf : ∀ i, 0 ≤ f i ∧ f i < 256) (i : Nat) : 0 ≤ hv f i ∧ hv f i < 256 := by
  have h := hf i
  unfold hv
  split <;> omega
theorem prime_p (less : Int) (h0 : 0 ≤ less) (h1 : less ≤ 237) (w : World) :
    Calls Try.prog 19 #[.int .u8 less] w fun e w' => ∃ g, e = .returned (.slice (some ⟨g, 0, none⟩) 32 32) ∧ Blk w' g (fnC 32 (pf less)) 5 ∧ Chg w w' [] :=
  (prime_s less h0 h1 w).mono fun _ _ ⟨g, he, _, hb, hc⟩ => ⟨g, he, hb, hc⟩
theorem halved_p (g : Nat) (w : World) (hb : Blk w g (fnC 32 (pf 1)) 5) :
    Calls Try.prog 18 #[.slice (some ⟨g, 0, none⟩) 32 32] w fun e w' => ∃ h, e = .returned (.slice (some ⟨h, 0, none⟩) 32 32) ∧ Blk w' h (fnC 32 (hv (pf 1))) 5 ∧ Chg w w' [] :=
  (halved_s g (pf 1) (fun i _ => pf_bd 1 (by decide) (by decide) i) w hb).mono fun _ _ ⟨h, he, _, hb, hc⟩ => ⟨h, he, hb, hc⟩
/-- a to (P - 1) / 2. -/
def eu (a : Int) : Int := pw a 28948022309329048855892746252171976963317496166410141009864396001978282409974
/-- a to P. -/
def fm (a : Int) : Int := pw a 57896044618658097711785492504343953926634992332820282019728792003956564819949
theorem nb_half : nb (fun i => (hv (pf 1) i).toNat) 0 32 = 28948022309329048855892746252171976963317496166410141009864396001978282409974 := by decide +kernel
theorem nb_full : nb (fun i => (pf 0 i).toNat) 0 32 = 57896044618658097711785492504343953926634992332820282019728792003956564819949 := by decide +kernel
theorem power_half (a : Int) (ra : R256 a) (h : Nat) (w : World) (hb : Blk w h (fnC 32 (hv (pf 1))) 5) :
    Calls Try.prog 17 #[fe a, .slice (some ⟨h, 0, none⟩) 32 32] w fun e w' => e = .returned (fe (eu a)) ∧ Chg w w' [] := by
  have bd := fun i => hv_bd (pf 1) (fun i => pf_bd 1 (by decide) (by decide) i) i
  have k := Power_fe a ra h 0 32 32 (fnC 32 (hv (pf 1))) 5 (fun i => (hv (pf 1) i).toNat) (fun i _ => by have := bd i; omega)
    (fun i hi => by rw [Nat.zero_add, fnC_get 32 _ i hi, Int.toNat_of_nonneg (bd i).1]) (by decide) w hb
  rw [nb_half] at k
  exact k
theorem power_full (a : Int) (ra : R256 a) (h : Nat) (w : World) (hb : Blk w h (fnC 32 (pf 0)) 5) :
    Calls Try.prog 17 #[fe a, .slice (some ⟨h, 0, none⟩) 32 32] w fun e w' => e = .returned (fe (fm a)) ∧ Chg w w' [] := by
  have bd := fun i => pf_bd 0 (by decide) (by decide) i
  have k := Power_fe a ra h 0 32 32 (fnC 32 (pf 0)) 5 (fun i => (pf 0 i).toNat) (fun i _ => by have := bd i; omega)
    (fun i hi => by rw [Nat.zero_add, fnC_get 32 _ i hi, Int.toNat_of_nonneg (bd i).1]) (by decide) w hb
  rw [nb_full] at k
  exact k

/-! ### Fermat and Euler -/
theorem fm_eq (a : Int) : fm a % P = a % P := by
  unfold fm
  rw [pw_self]
  by_cases h : a % P = 0
  · rw [h, pw_nought a _ (by decide +kernel) h]
  · have k := pw_mul a 57896044618658097711785492504343953926634992332820282019728792003956564819948 1 57896044618658097711785492504343953926634992332820282019728792003956564819949 (by decide +kernel)
    rw [pw_unit a h, Int.one_mul, pw_one, mm] at k
    exact k.symm
theorem eu_cases (a : Int) : eu a = 0 ∨ eu a = 1 ∨ eu a = -1 % P := by
  unfold eu
  by_cases h : a % P = 0
  · exact Or.inl (pw_nought a _ (by decide +kernel) h)
  · have k := pw_mul a 28948022309329048855892746252171976963317496166410141009864396001978282409974 28948022309329048855892746252171976963317496166410141009864396001978282409974 57896044618658097711785492504343953926634992332820282019728792003956564819948 (by decide +kernel)
    rw [pw_unit a h] at k
    have hs := pw_self a 28948022309329048855892746252171976963317496166410141009864396001978282409974
    rcases sq_cases (x := pw a 28948022309329048855892746252171976963317496166410141009864396001978282409974) (y := 1) (by rw [k]; decide) with h1 | h1
    · rw [hs] at h1; exact Or.inr (Or.inl h1)
    · rw [hs] at h1; exact Or.inr (Or.inr h1)
theorem eu_mul (a b : Int) : eu (a * b % P) = eu a * eu b % P := by unfold eu; rw [pw_mod, pw_prod]
theorem leg_eu (a : Int) : (eu a = 1 → leg a = 1) ∧ (eu a = 0 → leg a = 0) ∧ (eu a = -1 % P → leg a = -1) := leg_of a
theorem leg_mul (a b : Int) : leg (a * b % P) = leg a * leg b := by
  have hm := eu_mul a b
  obtain ⟨a1, a0, am⟩ := leg_eu a
  obtain ⟨b1, b0, bm⟩ := leg_eu b
  obtain ⟨c1, c0, cm⟩ := leg_eu (a * b % P)
  have one : (1 : Int) * 1 % P = 1 := by decide
  rcases eu_cases a with h | h | h <;> rcases eu_cases b with k | k | k <;> rw [h, k] at hm
  · rw [c0 (hm.trans (by decide)), a0 h, b0 k]; rfl
  · rw [c0 (hm.trans (by decide)), a0 h, b1 k]; rfl
  · rw [c0 (hm.trans (by decide +kernel)), a0 h, bm k]; rfl
  · rw [c0 (hm.trans (by decide)), a1 h, b0 k]; rfl
  · rw [c1 (hm.trans (by decide)), a1 h, b1 k]; rfl
  · rw [cm (hm.trans (by decide +kernel)), a1 h, bm k]; rfl
  · rw [c0 (hm.trans (by decide +kernel)), am h, b0 k]; rfl
  · rw [cm (hm.trans (by decide +kernel)), am h, b1 k]; rfl
  · rw [c1 (hm.trans (by decide +kernel)), am h, bm k]; rfl
end Go.Proofs.Ytialljmkkichiab
