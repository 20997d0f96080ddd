/- Square roots modulo P: what SqrtRatio's reckoning comes to. -/
import Derived.Test.YtialljmkkichiaaMath
set_option linter.unusedVariables false
set_option linter.unusedSimpArgs false
set_option linter.unnecessarySimpa false
namespace Go.Proofs.Ytialljmkkichiaa
open Go.RowKit N

/-! ### What the roots' law leans on -/
theorem mm (x : Int) : x % P % P = x % P := Int.emod_emod_of_dvd _ (Int.dvd_refl P)
theorem lo (x : Int) : 0 ≤ x % P := Int.emod_nonneg _ (by decide)
theorem hi (x : Int) : x % P < P := Int.emod_lt_of_pos _ (by decide)
theorem dvd_prod {x y : Int} (h : (x * y) % P = 0) : x % P = 0 ∨ y % P = 0 := by
  have hd : P ∣ x * y := Int.dvd_of_emod_eq_zero h
  have h1 : PN ∣ x.natAbs * y.natAbs := by
    rw [← Int.natAbs_mul]
    have := Int.natAbs_dvd_natAbs.2 hd
    rw [← PN_eq] at this
    exact this
  have back : ∀ z : Int, PN ∣ z.natAbs → z % P = 0 := fun z hz => by
    apply Int.emod_eq_zero_of_dvd
    rw [← PN_eq]
    exact Int.ofNat_dvd_left.2 hz
  rcases Pr.euclid pr_p h1 with h2 | h2
  · exact Or.inl (back x h2)
  · exact Or.inr (back y h2)
theorem eq_of_sub {x y : Int} (h : (x - y) % P = 0) : x % P = y % P := Int.emod_eq_emod_iff_emod_sub_eq_zero.2 h
theorem sub_of_eq {x y : Int} (h : x % P = y % P) : (x - y) % P = 0 := Int.emod_eq_emod_iff_emod_sub_eq_zero.1 h
theorem m_neg (x : Int) : -(x % P) % P = -x % P := by
  apply eq_of_sub
  rw [show -(x % P) - -x = x - x % P from by omega]
  exact sub_of_eq (mm x).symm
theorem sq_cases {x y : Int} (h : (x * x) % P = (y * y) % P) : x % P = y % P ∨ x % P = -y % P := by
  have h1 := sub_of_eq h
  have e : x * x - y * y = (x - y) * (x + y) := by grind
  rw [e] at h1
  rcases dvd_prod h1 with h2 | h2
  · exact Or.inl (eq_of_sub h2)
  · exact Or.inr (eq_of_sub (by rw [Int.sub_neg]; exact h2))
theorem cancel {u x y : Int} (hu : u % P ≠ 0) (h : (u * x) % P = (u * y) % P) : x % P = y % P := by
  have h1 := sub_of_eq h
  rw [← Int.mul_sub] at h1
  rcases dvd_prod h1 with h2 | h2
  · exact absurd h2 hu
  · exact eq_of_sub h2
theorem pw_mod (n : Int) (k : Nat) : pw (n % P) k = pw n k := by
  have h := pw_pw n 1 k k (by omega)
  rw [pw_one] at h
  exact h
theorem pw_prod (x y : Int) (k : Nat) : pw (x * y) k = pw x k * pw y k % P := by
  unfold pw
  rw [Int.mul_pow, ← Int.mul_emod]
theorem pw_self (n : Int) (k : Nat) : pw n k % P = pw n k := mm _
theorem S1_sq : S1 * S1 % P = -1 % P := by decide +kernel
/-- Fermat, for numbers that may be negative or great. -/
theorem pw_unit (x : Int) (h : x % P ≠ 0) : pw x 57896044618658097711785492504343953926634992332820282019728792003956564819948 = 1 := by
  rw [← pw_mod]
  obtain ⟨n, hn⟩ := Int.eq_ofNat_of_zero_le (lo x)
  rw [hn]
  refine pw_last n (fun hd => h ?_)
  rw [hn]
  have := (mod_zero_iff n).2 hd
  rw [← hn, mm] at this
  rw [← hn]
  exact this
theorem pw_nought (x : Int) (k : Nat) (hk : k ≠ 0) (h : x % P = 0) : pw x k = 0 := by
  rw [← pw_mod, h]
  exact pw_none 0 k hk (Nat.dvd_zero _)
theorem unit_prod {x y : Int} (hx : x % P ≠ 0) (hy : y % P ≠ 0) : (x * y) % P ≠ 0 := fun h => by
  rcases dvd_prod h with h1 | h1
  · exact hx h1
  · exact hy h1
theorem unit_pow {x : Int} (hx : x % P ≠ 0) (k : Nat) : (x ^ k) % P ≠ 0 := by
  induction k with
  | zero => rw [Int.pow_zero]; decide
  | succ k ih => rw [Int.pow_succ]; exact unit_prod ih hx

/-- u times v^7. -/
def Xf (u v : Int) : Int := u * v ^ 3 * (v * v * (v * v))
theorem rc_eq (u v : Int) : rc u v = (u * v ^ 3 * pw (Xf u v) 7237005577332262213973186563042994240829374041602535252466099000494570602493) % P := by unfold rc Xf; rw [m_mul_l]
theorem got_eq (u v : Int) : gotf u v = u * pw (Xf u v) 14474011154664524427946373126085988481658748083205070504932198000989141204987 % P := by
  have h1 : pw (Xf u v) 7237005577332262213973186563042994240829374041602535252466099000494570602493 * pw (Xf u v) 7237005577332262213973186563042994240829374041602535252466099000494570602493 % P = pw (Xf u v) 14474011154664524427946373126085988481658748083205070504932198000989141204986 := pw_mul _ _ _ _ (by decide +kernel)
  have h2 : pw (Xf u v) 14474011154664524427946373126085988481658748083205070504932198000989141204986 * pw (Xf u v) 1 % P = pw (Xf u v) 14474011154664524427946373126085988481658748083205070504932198000989141204987 := pw_mul _ _ _ _ (by decide +kernel)
  unfold gotf
  rw [m_mul_r, rc_eq]
  generalize hE : pw (Xf u v) 7237005577332262213973186563042994240829374041602535252466099000494570602493 = y at *
  rw [← h2, ← h1, pw_one, m_mul_r]
  have e0 : (v * (u * v ^ 3 * y % P * (u * v ^ 3 * y % P))) % P = (v * (u * v ^ 3 * y * (u * v ^ 3 * y))) % P := by
    rw [Int.mul_emod v, ← Int.mul_emod (u * v ^ 3 * y), ← Int.mul_emod v]
  have e1 : (u * (y * y % P * (Xf u v % P))) % P = (u * (y * y * Xf u v)) % P := by
    rw [Int.mul_emod u, ← Int.mul_emod (y * y), ← Int.mul_emod u]
  rw [e0, e1]
  congr 1
  unfold Xf
  grind
/-- The fourth root of one that decides. -/
theorem t_cases (u v : Int) (hu : u % P ≠ 0) (hv : v % P ≠ 0) :
    (pw (Xf u v) 14474011154664524427946373126085988481658748083205070504932198000989141204987 = 1 ∧ pw (u * v) 28948022309329048855892746252171976963317496166410141009864396001978282409974 = 1) ∨ (pw (Xf u v) 14474011154664524427946373126085988481658748083205070504932198000989141204987 = -1 % P ∧ pw (u * v) 28948022309329048855892746252171976963317496166410141009864396001978282409974 = 1) ∨
    (pw (Xf u v) 14474011154664524427946373126085988481658748083205070504932198000989141204987 = S1 ∧ pw (u * v) 28948022309329048855892746252171976963317496166410141009864396001978282409974 = -1 % P) ∨ (pw (Xf u v) 14474011154664524427946373126085988481658748083205070504932198000989141204987 = -S1 % P ∧ pw (u * v) 28948022309329048855892746252171976963317496166410141009864396001978282409974 = -1 % P) := by
  have hX : Xf u v % P ≠ 0 := unit_prod (unit_prod hu (unit_pow hv 3)) (unit_prod (unit_prod hv hv) (unit_prod hv hv))
  have k1 : pw (Xf u v) 28948022309329048855892746252171976963317496166410141009864396001978282409974 * pw (Xf u v) 28948022309329048855892746252171976963317496166410141009864396001978282409974 % P = pw (Xf u v) 57896044618658097711785492504343953926634992332820282019728792003956564819948 := pw_mul _ _ _ _ (by decide +kernel)
  have k2 : pw (Xf u v) 14474011154664524427946373126085988481658748083205070504932198000989141204987 * pw (Xf u v) 14474011154664524427946373126085988481658748083205070504932198000989141204987 % P = pw (Xf u v) 28948022309329048855892746252171976963317496166410141009864396001978282409974 := pw_mul _ _ _ _ (by decide +kernel)
  rw [pw_unit _ hX] at k1
  -- the same square class as u v
  have k3 : pw (Xf u v) 28948022309329048855892746252171976963317496166410141009864396001978282409974 = pw (u * v) 28948022309329048855892746252171976963317496166410141009864396001978282409974 := by
    have e : Xf u v = (u * v) * (v ^ 6) := by unfold Xf; grind
    have f : pw (v ^ 6) 28948022309329048855892746252171976963317496166410141009864396001978282409974 = 1 := by
      have g1 : pw (v ^ 6) 28948022309329048855892746252171976963317496166410141009864396001978282409974 = pw v 173688133855974293135356477513031861779904976998460846059186376011869694459844 := by
        have g := pw_pw v 6 28948022309329048855892746252171976963317496166410141009864396001978282409974 173688133855974293135356477513031861779904976998460846059186376011869694459844 (by decide +kernel)
        rw [show pw v 6 = v ^ 6 % P from rfl, pw_mod] at g
        exact g
      have g2 : pw v 173688133855974293135356477513031861779904976998460846059186376011869694459844 = 1 := by
        have g := pw_pw v 57896044618658097711785492504343953926634992332820282019728792003956564819948 3 173688133855974293135356477513031861779904976998460846059186376011869694459844 (by decide +kernel)
        rw [pw_unit v hv] at g
        rw [← g]
        decide +kernel
      rw [g1, g2]
    rw [e, pw_prod, f, Int.mul_one, pw_self]
  rw [k3] at k1 k2
  have hs := pw_self (u * v) 28948022309329048855892746252171976963317496166410141009864396001978282409974
  have ht := pw_self (Xf u v) 14474011154664524427946373126085988481658748083205070504932198000989141204987
  generalize pw (u * v) 28948022309329048855892746252171976963317496166410141009864396001978282409974 = s at *
  generalize pw (Xf u v) 14474011154664524427946373126085988481658748083205070504932198000989141204987 = t at *
  have one : (1 : Int) % P = 1 := by decide
  have hS1 : S1 % P = S1 := by decide +kernel
  rcases sq_cases (x := s) (y := 1) (by rw [k1]; decide) with h1 | h1
  · rw [hs, one] at h1
    rw [h1] at k2
    rcases sq_cases (x := t) (y := 1) (by rw [k2]; decide) with h2 | h2
    · rw [ht, one] at h2; exact Or.inl ⟨h2, h1⟩
    · rw [ht] at h2; exact Or.inr (Or.inl ⟨h2, h1⟩)
  · rw [hs] at h1
    rw [h1, ← S1_sq] at k2
    rcases sq_cases k2 with h2 | h2
    · rw [ht, hS1] at h2; exact Or.inr (Or.inr (Or.inl ⟨h2, h1⟩))
    · rw [ht] at h2; exact Or.inr (Or.inr (Or.inr ⟨h2, h1⟩))

/-- ab keeps the square, is canonical, is not negative. -/
theorem ab_can (a : Int) : ab a % P = ab a := mm _
theorem ab_sq (a : Int) : (ab a * ab a) % P = (a * a) % P := by
  unfold ab sel
  split
  · rw [← Int.mul_emod, m_mul_l, m_mul_r, Int.neg_mul_neg]
  · rw [← Int.mul_emod]
theorem ab_even (a : Int) : (ab a % 2 == 1) = false := by
  have h1 := lo a
  have h2 := hi a
  unfold ab sel
  split
  · rename_i h
    rw [mm]
    have hne : a % P ≠ 0 := fun e => by rw [e] at h; exact absurd h (by decide)
    have e : -a % P = P - a % P := by
      rw [← m_neg a]
      rw [← Int.add_emod_right, Int.emod_eq_of_lt (by omega) (by omega)]
      omega
    rw [e]
    have hp : P % 2 = 1 := by decide
    simp at h ⊢
    omega
  · rename_i h
    simpa using h
theorem ab_zero (a : Int) (h : a % P = 0) : ab a = 0 := by
  unfold ab sel
  rw [h]
  rw [if_neg (by decide)]
  exact h
theorem leg_of (a : Int) : (pw a 28948022309329048855892746252171976963317496166410141009864396001978282409974 = 1 → leg a = 1) ∧ (pw a 28948022309329048855892746252171976963317496166410141009864396001978282409974 = 0 → leg a = 0) ∧ (pw a 28948022309329048855892746252171976963317496166410141009864396001978282409974 = -1 % P → leg a = -1) := by
  refine ⟨fun h => ?_, fun h => ?_, fun h => ?_⟩
  · unfold leg; rw [h]; decide
  · unfold leg; rw [h]; decide
  · unfold leg; rw [h]; decide +kernel

def fixB (u v : Int) : Bool := decide (gotf u v = -u % P) || decide (gotf u v = S1 * (-u % P) % P)
def rootB (u v : Int) : Int := if fixB u v then S1 * rc u v % P else rc u v
def okB (u v : Int) : Bool := decide (gotf u v = u % P) || decide (gotf u v = -u % P)
theorem c1 (u : Int) : -u % P = u * -1 % P := by congr 1; omega
theorem c2 (u : Int) : S1 * (-u % P) % P = u * -S1 % P := by rw [m_mul_r]; congr 1; grind
theorem c3 (u : Int) : u % P = u * 1 % P := by rw [Int.mul_one]
theorem dec_same (u c : Int) : decide (u * c % P = u * c % P) = true := decide_eq_true rfl
theorem dec_not {u c d : Int} (hu : u % P ≠ 0) (h : c % P ≠ d % P) : decide (u * c % P = u * d % P) = false := decide_eq_false fun e => h (cancel hu e)
theorem fix_t {u v t : Int} (g : gotf u v = u * t % P) : fixB u v = (decide (u * t % P = u * -1 % P) || decide (u * t % P = u * -S1 % P)) := by unfold fixB; rw [g, c2 u, c1 u]
theorem ok_t {u v t : Int} (g : gotf u v = u * t % P) : okB u v = (decide (u * t % P = u * 1 % P) || decide (u * t % P = u * -1 % P)) := by unfold okB; rw [g, c1 u, c3 u]
theorem root_sq (u v : Int) : (rootB u v * rootB u v % P * v) % P = if fixB u v then -gotf u v % P else gotf u v := by
  have g : gotf u v = (v * (rc u v * rc u v)) % P := by unfold gotf; rw [m_mul_r]
  unfold rootB
  split
  · rw [← Int.mul_emod, m_mul_l, g, m_neg, show S1 * rc u v * (S1 * rc u v) * v = S1 * S1 * (rc u v * rc u v * v) from by grind, ← m_mul_l, S1_sq, m_mul_l]
    congr 1
    grind
  · rw [m_mul_l, g]
    congr 1
    grind
theorem ab_root (u v : Int) : (ab (rootB u v) * ab (rootB u v) % P * v) % P = if fixB u v then -gotf u v % P else gotf u v := by
  rw [ab_sq, root_sq]
theorem leg_ml (u v : Int) : leg (u * v % P) = leg (u * v) := by unfold leg; rw [pw_mod]
theorem root_none (u v : Int) (h : (u * v) % P = 0) : gotf u v = 0 ∧ rootB u v % P = 0 := by
  have hr : rc u v = 0 := by
    rw [rc_eq, show u * v ^ 3 * pw (Xf u v) 7237005577332262213973186563042994240829374041602535252466099000494570602493 = (u * v) * (v ^ 2 * pw (Xf u v) 7237005577332262213973186563042994240829374041602535252466099000494570602493) from by grind, ← m_mul_l, h, Int.zero_mul]
    rfl
  have hg : gotf u v = 0 := by unfold gotf; rw [hr]; simp
  refine ⟨hg, ?_⟩
  unfold rootB
  rw [hr]
  split <;> simp
theorem root_v0 (u v : Int) (h : v % P = 0) : ab (rootB u v) = 0 ∧ okB u v = decide (u % P = 0) := by
  have h0 : (u * v) % P = 0 := by rw [← m_mul_r, h, Int.mul_zero]; rfl
  obtain ⟨hg, hr⟩ := root_none u v h0
  refine ⟨ab_zero _ hr, ?_⟩
  unfold okB
  rw [hg]
  have e : (0 = -u % P) ↔ (0 = u % P) := by
    constructor
    · intro k
      have := m_neg (-u)
      rw [← k, Int.neg_neg] at this
      exact this
    · intro k
      have := m_neg u
      rw [← k] at this
      exact this
  by_cases hu : u % P = 0
  · simp [hu]
  · have h1 : ¬ (0 = u % P) := fun k => hu k.symm
    have h2 : ¬ (0 = -u % P) := fun k => h1 (e.1 k)
    simp [hu, h1, h2]
theorem root_main (u v : Int) (hv : v % P ≠ 0) :
    (okB u v = true ∧ (ab (rootB u v) * ab (rootB u v) % P * v) % P = u % P ∧ 0 ≤ leg (u * v % P)) ∨
    (okB u v = false ∧ (ab (rootB u v) * ab (rootB u v) % P * v) % P = S1 * u % P ∧ leg (u * v % P) = -1) := by
  rw [ab_root, leg_ml]
  obtain ⟨l1, l0, lm⟩ := leg_of (u * v)
  by_cases hu : u % P = 0
  · left
    have h0 : (u * v) % P = 0 := by rw [← m_mul_l, hu, Int.zero_mul]; rfl
    obtain ⟨hg, hr⟩ := root_none u v h0
    have hl := l0 (pw_nought _ _ (by decide +kernel) h0)
    refine ⟨?_, ?_, ?_⟩
    · unfold okB; rw [hg, hu]; rfl
    · rw [hg, hu]; split <;> rfl
    · rw [hl]; decide
  · have g := got_eq u v
    rcases t_cases u v hu hv with ⟨t, hp⟩ | ⟨t, hp⟩ | ⟨t, hp⟩ | ⟨t, hp⟩
    · left
      rw [t] at g
      have f1 : fixB u v = false := by rw [fix_t g, dec_not hu (by decide +kernel), dec_not hu (by decide +kernel)]; rfl
      have o1 : okB u v = true := by rw [ok_t g, dec_same]; rfl
      refine ⟨o1, ?_, ?_⟩
      · rw [f1, if_neg (by decide), g, Int.mul_one]
      · rw [l1 hp]; decide
    · left
      rw [t, m_mul_r] at g
      have f1 : fixB u v = true := by rw [fix_t g, dec_same]; rfl
      have o1 : okB u v = true := by rw [ok_t g, dec_same]; simp
      refine ⟨o1, ?_, ?_⟩
      · rw [f1, if_pos rfl, g, m_neg]; congr 1; omega
      · rw [l1 hp]; decide
    · right
      rw [t] at g
      have f1 : fixB u v = false := by rw [fix_t g, dec_not hu (by decide +kernel), dec_not hu (by decide +kernel)]; rfl
      have o1 : okB u v = false := by rw [ok_t g, dec_not hu (by decide +kernel), dec_not hu (by decide +kernel)]; rfl
      refine ⟨o1, ?_, lm hp⟩
      rw [f1, if_neg (by decide), g, Int.mul_comm]
    · right
      rw [t, m_mul_r] at g
      have f1 : fixB u v = true := by rw [fix_t g, dec_same]; simp
      have o1 : okB u v = false := by rw [ok_t g, dec_not hu (by decide +kernel), dec_not hu (by decide +kernel)]; rfl
      refine ⟨o1, ?_, lm hp⟩
      rw [f1, if_pos rfl, g, m_neg]
      congr 1
      grind

theorem fixf_eq (u v : Int) : fixf u v = fixB u v := by unfold fixf fixB; rw [eqf_eq (r256_got u v) (r256_mod _), eqf_eq (r256_got u v) (r256_mod _)]
theorem okf_eq (u v : Int) : okf u v = okB u v := by unfold okf okB; rw [eqf_eq (r256_got u v) (r256_mod _), eqf_eq (r256_got u v) (r256_mod _)]
theorem rootf_eq (u v : Int) : rootf u v = rootB u v := by unfold rootf rootB; rw [fixf_eq]
end Go.Proofs.Ytialljmkkichiaa
