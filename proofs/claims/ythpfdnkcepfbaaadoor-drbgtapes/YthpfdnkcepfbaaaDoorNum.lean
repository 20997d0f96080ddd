/- Plain numbers: what a prime is, Euclid's lemma, Fermat, Pocklington's test; that the group's order is prime. No Go in sight. -/

set_option linter.unusedVariables false
set_option linter.unusedSimpArgs false
set_option linter.unnecessarySimpa false
namespace Go.Proofs.YthpfdnkcepfbaaaDoor
namespace N

def Pr (q : Nat) : Prop := 2 ≤ q ∧ ∀ d, d ∣ q → d = 1 ∨ d = q

theorem Pr.cop {q a : Nat} (h : Pr q) (ha : ¬ q ∣ a) : Nat.gcd q a = 1 := by
  rcases h.2 _ (Nat.gcd_dvd_left q a) with h1 | h1
  · exact h1
  · exact absurd (h1 ▸ Nat.gcd_dvd_right q a) ha

theorem Pr.euclid {q a b : Nat} (h : Pr q) (hd : q ∣ a * b) : q ∣ a ∨ q ∣ b := by
  by_cases ha : q ∣ a
  · exact Or.inl ha
  · exact Or.inr (Nat.Coprime.dvd_of_dvd_mul_left (h.cop ha) hd)

/-! ### Fermat, by binomials -/
def ch : Nat → Nat → Nat
  | _, 0 => 1
  | 0, _ + 1 => 0
  | n + 1, k + 1 => ch n k + ch n (k + 1)

theorem ch_zero (n : Nat) : ch n 0 = 1 := by cases n <;> rfl
theorem ch_succ (n k : Nat) : ch (n + 1) (k + 1) = ch n k + ch n (k + 1) := rfl
theorem ch_over (n : Nat) : ∀ k, n < k → ch n k = 0 := by
  induction n with
  | zero => intro k hk; cases k with
    | zero => omega
    | succ k => rfl
  | succ n ih => intro k hk; cases k with
    | zero => omega
    | succ k => rw [ch_succ, ih k (by omega), ih (k + 1) (by omega)]
theorem ch_self (n : Nat) : ch n n = 1 := by
  induction n with
  | zero => rfl
  | succ n ih => rw [ch_succ, ih, ch_over n (n + 1) (by omega)]
theorem ch_mul (n : Nat) : ∀ k, (k + 1) * ch (n + 1) (k + 1) = (n + 1) * ch n k := by
  induction n with
  | zero => intro k; cases k with
    | zero => rfl
    | succ k => rw [ch_over 1 (k + 1 + 1) (by omega), ch_over 0 (k + 1) (by omega)]; simp
  | succ m ih => intro k; cases k with
    | zero =>
      have := ih 0
      rw [ch_succ, ch_zero]; rw [ch_zero] at this; omega
    | succ j =>
      have h1 := ih (j + 1)
      have h2 := ih j
      have e1 : ch (m + 1 + 1) (j + 1 + 1) = ch (m + 1) (j + 1) + ch (m + 1) (j + 1 + 1) := rfl
      have e2 : ch (m + 1) (j + 1) = ch m j + ch m (j + 1) := rfl
      rw [e1, Nat.mul_add, h1]
      have e3 : (j + 1 + 1) * ch (m + 1) (j + 1) = ch (m + 1) (j + 1) + (j + 1) * ch (m + 1) (j + 1) := by rw [Nat.add_mul (j + 1) 1]; omega
      rw [e3, h2]
      have e4 : (m + 1 + 1) * ch (m + 1) (j + 1) = ch (m + 1) (j + 1) + (m + 1) * ch (m + 1) (j + 1) := by rw [Nat.add_mul (m + 1) 1]; omega
      rw [e4, e2, Nat.mul_add]; omega

def su (n a : Nat) : Nat → Nat
  | 0 => 0
  | m + 1 => su n a m + ch n m * a ^ m

theorem su_step (n a : Nat) : ∀ m, su (n + 1) a (m + 1) = su n a (m + 1) + a * su n a m := by
  intro m
  induction m with
  | zero => simp [su, ch_zero]
  | succ m ih =>
    have e1 : su (n + 1) a (m + 1 + 1) = su (n + 1) a (m + 1) + ch (n + 1) (m + 1) * a ^ (m + 1) := rfl
    have e2 : su n a (m + 1 + 1) = su n a (m + 1) + ch n (m + 1) * a ^ (m + 1) := rfl
    have e3 : a * su n a (m + 1) = a * su n a m + ch n m * a ^ (m + 1) := by
      show a * (su n a m + ch n m * a ^ m) = _
      rw [Nat.mul_add, Nat.pow_succ, Nat.mul_left_comm, Nat.mul_comm a (a ^ m)]
    rw [e1, e2, e3, ih, ch_succ, Nat.add_mul]; omega

theorem binom (a n : Nat) : (a + 1) ^ n = su n a (n + 1) := by
  induction n with
  | zero => simp [su, ch]
  | succ n ih =>
    rw [su_step, Nat.pow_succ, ih]
    have e : su n a (n + 1 + 1) = su n a (n + 1) := by show su n a (n + 1) + ch n (n + 1) * a ^ (n + 1) = _; rw [ch_over n (n + 1) (by omega)]; simp
    rw [e, Nat.mul_add, Nat.mul_comm (su n a (n + 1)) a]; omega

theorem su_mod {q : Nat} (h : Pr q) (a : Nat) : ∀ m, m + 1 ≤ q → ∃ t, su q a (m + 1) = 1 + q * t := by
  intro m
  induction m with
  | zero => intro _; exact ⟨0, by simp [su, ch_zero]⟩
  | succ m ih =>
    intro hm
    obtain ⟨t, ht⟩ := ih (by omega)
    have hq : q = q - 1 + 1 := by have := h.1; omega
    have h1 := ch_mul (q - 1) m
    rw [← hq] at h1
    have hd : q ∣ (m + 1) * ch q (m + 1) := ⟨_, h1⟩
    rcases h.euclid hd with h2 | ⟨s, h2⟩
    · have := Nat.le_of_dvd (by omega) h2; omega
    · refine ⟨t + s * a ^ (m + 1), ?_⟩
      show su q a (m + 1) + ch q (m + 1) * a ^ (m + 1) = _
      rw [ht, h2, Nat.mul_add, Nat.mul_assoc]; omega

theorem fermat {q : Nat} (h : Pr q) (a : Nat) : ∃ s, a ^ q = a + q * s := by
  induction a with
  | zero => exact ⟨0, by rw [Nat.zero_pow (by have := h.1; omega)]; rfl⟩
  | succ a ih =>
    obtain ⟨s, hs⟩ := ih
    have hq : q = q - 1 + 1 := by have := h.1; omega
    obtain ⟨t, ht⟩ := su_mod h a (q - 1) (by omega)
    rw [← hq] at ht
    refine ⟨t + s, ?_⟩
    rw [binom]
    show su q a q + ch q q * a ^ q = _
    rw [ch_self, ht, hs, Nat.mul_add q t s]; omega

theorem fermat_one {q a : Nat} (h : Pr q) (ha : ¬ q ∣ a) : a ^ (q - 1) % q = 1 := by
  obtain ⟨s, hs⟩ := fermat h a
  have hq : q = q - 1 + 1 := by have := h.1; omega
  have ha0 : 0 < a := Nat.pos_of_ne_zero fun e => ha (e ▸ Nat.dvd_zero q)
  have hp : 0 < a ^ (q - 1) := Nat.pow_pos ha0
  have e : a ^ q = a * a ^ (q - 1) := by rw [hq, Nat.pow_succ, Nat.mul_comm]; rfl
  have hd : q ∣ a * (a ^ (q - 1) - 1) := ⟨s, by rw [Nat.mul_sub, ← e, hs]; omega⟩
  rcases h.euclid hd with h1 | ⟨t, ht⟩
  · exact absurd h1 ha
  · have : a ^ (q - 1) = 1 + q * t := by omega
    rw [this, Nat.add_mul_mod_self_left]
    exact Nat.mod_eq_of_lt (by have := h.1; omega)

/-! ### Pocklington -/
theorem pow_gcd {a d : Nat} (hd : 2 ≤ d) (x y : Nat) : a ^ x % d = 1 → a ^ y % d = 1 → a ^ Nat.gcd x y % d = 1 := by
  induction x, y using Nat.gcd.induction with
  | H0 n => intro _ h; simpa using h
  | H1 m n hm ih =>
    intro h1 h2
    rw [Nat.gcd_rec]
    refine ih ?_ h1
    have e : a ^ n = (a ^ m) ^ (n / m) * a ^ (n % m) := by
      rw [← Nat.pow_mul, ← Nat.pow_add, Nat.div_add_mod]
    rw [e, Nat.mul_mod, Nat.pow_mod, h1, Nat.one_pow] at h2
    have h1d : 1 % d = 1 := Nat.mod_eq_of_lt (by omega)
    rw [h1d, Nat.one_mul, Nat.mod_mod] at h2
    exact h2

theorem has_prime (m : Nat) : 2 ≤ m → ∃ d, Pr d ∧ d ∣ m := by
  induction m using Nat.strongRecOn with
  | ind m ih =>
    intro hm
    by_cases h : Pr m
    · exact ⟨m, h, Nat.dvd_refl m⟩
    · have : ∃ d, d ∣ m ∧ d ≠ 1 ∧ d ≠ m := by
        refine Classical.byContradiction fun hn => h ⟨hm, fun d hd => ?_⟩
        by_cases h1 : d = 1
        · exact Or.inl h1
        · by_cases h2 : d = m
          · exact Or.inr h2
          · exact absurd ⟨d, hd, h1, h2⟩ hn
      obtain ⟨d, hd, h1, h2⟩ := this
      have hle := Nat.le_of_dvd (by omega) hd
      have h0 : d ≠ 0 := fun e => by subst e; have := Nat.eq_zero_of_zero_dvd hd; omega
      obtain ⟨e, he, hed⟩ := ih d (by omega) (by omega)
      exact ⟨e, he, Nat.dvd_trans hed hd⟩

theorem pr_of {n : Nat} (h2 : 2 ≤ n) (h : ∀ d, Pr d → d ∣ n → n < d * d) : Pr n := by
  refine ⟨h2, fun e he => ?_⟩
  by_cases h1 : e = 1
  · exact Or.inl h1
  by_cases hn : e = n
  · exact Or.inr hn
  exfalso
  obtain ⟨f, hf⟩ := he
  have e0 : e ≠ 0 := fun h => by subst h; simp at hf; omega
  have f0 : f ≠ 0 := fun h => by subst h; simp at hf; omega
  have f1 : f ≠ 1 := fun h => by subst h; simp at hf; omega
  obtain ⟨d, hd, hde⟩ := has_prime e (by omega)
  obtain ⟨d', hd', hdf⟩ := has_prime f (by omega)
  have k1 := h d hd (Nat.dvd_trans hde ⟨f, hf⟩)
  have k2 := h d' hd' (Nat.dvd_trans hdf ⟨e, by rw [hf, Nat.mul_comm]⟩)
  have l1 := Nat.le_of_dvd (by omega) hde
  have l2 := Nat.le_of_dvd (by omega) hdf
  have l3 : d * d' ≤ n := hf ▸ Nat.mul_le_mul l1 l2
  rcases Nat.le_total d d' with hl | hl
  · have := Nat.mul_le_mul_left d hl; omega
  · have := Nat.mul_le_mul_right d' hl; omega

/-- a to e, modulo n. -/
def pm : Nat → Nat → Nat → Nat → Nat
  | 0, _, _, n => 1 % n
  | f + 1, a, e, n => if e % 2 = 1 then a * pm f (a * a % n) (e / 2) n % n else pm f (a * a % n) (e / 2) n

theorem pm_eq (f : Nat) : ∀ a e n, e < 2 ^ f → pm f a e n = a ^ e % n := by
  induction f with
  | zero => intro a e n h; have : e = 0 := by omega
            subst this; simp [pm]
  | succ f ih =>
    intro a e n h
    have ih' := ih (a * a % n) (e / 2) n (by rw [Nat.pow_succ] at h; omega)
    have e2 : (a * a % n) ^ (e / 2) % n = (a ^ 2) ^ (e / 2) % n := by rw [← Nat.pow_mod, Nat.pow_two]
    have e3 : a ^ e = (a ^ 2) ^ (e / 2) * a ^ (e % 2) := by rw [← Nat.pow_mul, ← Nat.pow_add, Nat.div_add_mod]
    rw [pm, ih', e2, e3]
    by_cases ho : e % 2 = 1
    · rw [if_pos ho, ho, Nat.pow_one, Nat.mul_comm, Nat.mod_mul_mod]
    · have : e % 2 = 0 := by omega
      rw [if_neg ho, this, Nat.pow_zero, Nat.mul_one]

theorem dvd_pow_self' (a : Nat) {k : Nat} (h : k ≠ 0) : a ∣ a ^ k := by
  obtain ⟨j, rfl⟩ : ∃ j, k = j + 1 := ⟨k - 1, by omega⟩
  exact ⟨a ^ j, by rw [Nat.pow_succ, Nat.mul_comm]⟩

theorem pock_one {n r h a d : Nat} (hr : Pr r) (hn : n = r * h + 1) (h1 : a ^ (r * h) % n = 1) (hg : Nat.gcd (a ^ h % n + n - 1) n = 1) (hd : Pr d) (hdn : d ∣ n) : r ∣ d - 1 := by
  have d2 := hd.1
  have md : 1 % d = 1 := Nat.mod_eq_of_lt (by omega)
  have f1 : a ^ (r * h) % d = 1 := by rw [← Nat.mod_mod_of_dvd (a ^ (r * h)) hdn, h1, md]
  have hh : h ≠ 0 := fun e => by
    subst e
    simp at hn; subst hn; have := Nat.le_of_dvd (by omega) hdn; omega
  have hrh : r * h ≠ 0 := Nat.mul_ne_zero (by have := hr.1; omega) hh
  have hda : ¬ d ∣ a := fun hx => by
    have : d ∣ a ^ (r * h) := Nat.dvd_trans hx (dvd_pow_self' a hrh)
    have := Nat.mod_eq_zero_of_dvd this
    omega
  have f2 := fermat_one hd hda
  have f3 := pow_gcd d2 _ _ f1 f2
  refine Classical.byContradiction fun hnr => ?_
  have hnr' : ¬ r ∣ Nat.gcd (r * h) (d - 1) := fun hx => hnr (Nat.dvd_trans hx (Nat.gcd_dvd_right _ _))
  have hc := hr.cop hnr'
  have hgh : Nat.gcd (r * h) (d - 1) ∣ h := Nat.Coprime.dvd_of_dvd_mul_left (Nat.Coprime.symm hc) (Nat.gcd_dvd_left _ _)
  obtain ⟨k, hk⟩ := hgh
  have f4 : a ^ h % d = 1 := by
    rw [hk, Nat.pow_mul, Nat.pow_mod, f3, Nat.one_pow, md]
  have f5 : (a ^ h % n) % d = 1 := by rw [Nat.mod_mod_of_dvd _ hdn]; exact f4
  have f6 : d ∣ a ^ h % n + n - 1 := by
    obtain ⟨m, hm⟩ := hdn
    have e := Nat.div_add_mod (a ^ h % n) d
    rw [f5] at e
    refine ⟨(a ^ h % n) / d + m, ?_⟩
    rw [Nat.mul_add, ← hm]; omega
  have f7 : d ∣ 1 := hg ▸ Nat.dvd_gcd f6 hdn
  have := Nat.le_of_dvd (by omega) f7
  omega

/-- One great prime factor. -/
theorem pock1 {n r : Nat} (a h f : Nat) (hr : Pr r) (hn : n = r * h + 1) (hs : n < r * r) (hf : n < 2 ^ f) (h1 : pm f a (r * h) n = 1) (hg : Nat.gcd (pm f a h n + n - 1) n = 1) : Pr n := by
  have r2 := hr.1
  have h0 : h ≤ r * h := Nat.le_mul_of_pos_left h (by omega)
  rw [pm_eq f a (r * h) n (by omega)] at h1
  rw [pm_eq f a h n (by omega)] at hg
  have hn0 : n ≠ 1 := fun e => by rw [e] at h1; simp [Nat.mod_one] at h1
  refine pr_of (by omega) fun d hd hdn => ?_
  have hk := pock_one hr hn h1 hg hd hdn
  have := Nat.le_of_dvd (by have := hd.1; omega) hk
  have l : r ≤ d := by omega
  have := Nat.mul_le_mul l l
  omega

/-- Two prime factors. -/
theorem pock2 {n r s : Nat} (a h b k f : Nat) (hr : Pr r) (hs : Pr s) (hrs : Nat.gcd r s = 1) (hn : n = r * h + 1) (hn' : n = s * k + 1) (hq : n < (r * s) * (r * s)) (hf : n < 2 ^ f)
    (h1 : pm f a (r * h) n = 1) (hg : Nat.gcd (pm f a h n + n - 1) n = 1) (h1' : pm f b (s * k) n = 1) (hg' : Nat.gcd (pm f b k n + n - 1) n = 1) : Pr n := by
  have r2 := hr.1
  have s2 := hs.1
  have h0 : h ≤ r * h := Nat.le_mul_of_pos_left h (by omega)
  have k0 : k ≤ s * k := Nat.le_mul_of_pos_left k (by omega)
  rw [pm_eq f a (r * h) n (by omega)] at h1
  rw [pm_eq f a h n (by omega)] at hg
  rw [pm_eq f b (s * k) n (by omega)] at h1'
  rw [pm_eq f b k n (by omega)] at hg'
  have hn0 : n ≠ 1 := fun e => by rw [e] at h1; simp [Nat.mod_one] at h1
  refine pr_of (by omega) fun d hd hdn => ?_
  have q1 := pock_one hr hn h1 hg hd hdn
  have q2 := pock_one hs hn' h1' hg' hd hdn
  have q3 : r * s ∣ d - 1 := Nat.Coprime.mul_dvd_of_dvd_of_dvd hrs q1 q2
  have := Nat.le_of_dvd (by have := hd.1; omega) q3
  have l : r * s ≤ d := by omega
  have := Nat.mul_le_mul l l
  omega

/-- By trial: no divisor from d on, as many as fuel says. -/
def trQ (n : Nat) : Nat → Nat → Bool
  | 0, _ => true
  | f + 1, d => n % d != 0 && trQ n f (d + 1)

theorem tr_no {n : Nat} : ∀ f d, trQ n f d = true → ∀ e, d ≤ e → e < d + f → ¬ e ∣ n := by
  intro f
  induction f with
  | zero => intro d _ e h1 h2; omega
  | succ f ih =>
    intro d h e h1 h2 hd
    simp only [trQ, Bool.and_eq_true, bne_iff_ne] at h
    by_cases he : e = d
    · subst he; exact h.1 (Nat.mod_eq_zero_of_dvd hd)
    · exact ih (d + 1) h.2 e (by omega) (by omega) hd

theorem pr_trial {n : Nat} (f : Nat) (h2 : 2 ≤ n) (hf : n < (f + 2) * (f + 2)) (h : trQ n f 2 = true) : Pr n := by
  refine pr_of h2 fun d hd hdn => ?_
  have d2 := hd.1
  by_cases hx : d < 2 + f
  · exact absurd hdn (tr_no f 2 h d d2 hx)
  · have l : f + 2 ≤ d := by omega
    have := Nat.mul_le_mul l l
    omega

theorem pr_1224481 : Pr 1224481 := pr_trial 1105 (by decide) (by decide) (by decide +kernel)
theorem pr_531581 : Pr 531581 := pr_trial 728 (by decide) (by decide) (by decide +kernel)
theorem pr_n2 : Pr 1257559732178653 := pock2 2 1027014492 2 2365697292 51 pr_1224481 pr_531581 (by decide +kernel) (by decide +kernel) (by decide +kernel) (by decide +kernel) (by decide +kernel) (by decide +kernel) (by decide +kernel) (by decide +kernel) (by decide +kernel) 
theorem pr_n3 : Pr 4434155615661930479 := pock1 2 3526 62 pr_n2 (by decide +kernel) (by decide +kernel) (by decide +kernel) (by decide +kernel) (by decide +kernel)
theorem pr_n4 : Pr 172054593956031949258510691 := pock1 2 38802110 88 pr_n3 (by decide +kernel) (by decide +kernel) (by decide +kernel) (by decide +kernel) (by decide +kernel)
theorem pr_n5 : Pr 19757330305831588566944191468367130476339 := pock1 2 114831751082918 134 pr_n4 (by decide +kernel) (by decide +kernel) (by decide +kernel) (by decide +kernel) (by decide +kernel)
theorem pr_n6 : Pr 276602624281642239937218680557139826668747 := pock1 2 14 138 pr_n5 (by decide +kernel) (by decide +kernel) (by decide +kernel) (by decide +kernel) (by decide +kernel)
theorem pr_n7 : Pr 7237005577332262213973186563042994240857116359379907606001950938285454250989 := pock1 2 26163907866482859529727157400808004 253 pr_n6 (by decide +kernel) (by decide +kernel) (by decide +kernel) (by decide +kernel) (by decide +kernel)
theorem pr_l : Pr 7237005577332262213973186563042994240857116359379907606001950938285454250989 := pr_n7


end N
end Go.Proofs.YthpfdnkcepfbaaaDoor
