/- The document's root is the program's: numbers. -/
import Derived.Test.YtialljmkkichiaaRSqrt
import Derived.Test.YtialljmkkichiaaRoots
set_option linter.unusedVariables false
set_option linter.unusedSimpArgs false
set_option linter.unnecessarySimpa false
namespace Go.Proofs.Ytialljmkkichiaa
open Go.RowKit N

/-- Two squares the same, both not negative: the same. -/
theorem ab_uniq (x y : Int) (h : (ab x * ab x) % P = (ab y * ab y) % P) : ab x = ab y := by
  have ex := ab_can x; have ey := ab_can y
  have vx := ab_even x; have vy := ab_even y
  have lx := lo (ab x); have ux := hi (ab x); have ly := lo (ab y); have uy := hi (ab y)
  rw [ex] at lx ux
  rw [ey] at ly uy
  rcases sq_cases h with h1 | h1
  · rw [ex, ey] at h1; exact h1
  · rw [ex] at h1
    by_cases h0 : ab y = 0
    · rw [h0] at h1 ⊢
      rw [h1]; decide
    · exfalso
      have e : -ab y % P = P - ab y := by
        rw [← Int.add_emod_right, Int.emod_eq_of_lt (by omega) (by omega)]
        omega
      rw [e] at h1
      have hp : P % 2 = 1 := by decide
      have vx' : ab x % 2 ≠ 1 := by simpa using vx
      have vy' : ab y % 2 ≠ 1 := by simpa using vy
      omega
/-- The square of the root of a square. -/
theorem rtr_sq (q : Int) (h : pw q 28948022309329048855892746252171976963317496166410141009864396001978282409974 = 1) : (rtr q * rtr q) % P = q % P := by
  have hcc : cr q * cr q % P = pw q 14474011154664524427946373126085988481658748083205070504932198000989141204988 := pw_mul q _ _ _ (by decide +kernel)
  have hc4 : pw q 14474011154664524427946373126085988481658748083205070504932198000989141204988 * pw q 14474011154664524427946373126085988481658748083205070504932198000989141204988 % P = q * q % P := by
    rw [pw_mul q _ _ 28948022309329048855892746252171976963317496166410141009864396001978282409976 (by decide +kernel), ← pw_mul q 28948022309329048855892746252171976963317496166410141009864396001978282409974 2 _ (by decide +kernel), h, Int.one_mul, pw_self]
    unfold pw
    rw [Int.pow_succ, Int.pow_succ, Int.pow_zero, Int.one_mul]
  rw [← hcc] at hc4
  unfold rtr
  rw [ab_sq]
  have hr : crq q = decide (cr q * cr q % P = q % P) := by unfold crq; exact eqf_eq (r256_mod _) (r256_mod _)
  by_cases hq : cr q * cr q % P = q % P
  · rw [hr, decide_eq_true hq, if_pos rfl, hq]
  · rw [hr, decide_eq_false hq, if_neg (by decide), m_mul_l, m_mul_r]
    rcases sq_cases hc4 with h1 | h1
    · rw [mm] at h1; exact absurd h1 hq
    · rw [mm] at h1
      have e : cr q * S1 * (cr q * S1) = (cr q * cr q) * (S1 * S1) := by grind
      rw [e, Int.mul_emod, h1, S1_sq, ← Int.mul_emod, Int.neg_mul_neg, Int.mul_one]
theorem pwS1 : pw S1 28948022309329048855892746252171976963317496166410141009864396001978282409974 = 57896044618658097711785492504343953926634992332820282019728792003956564819948 := (pw_pm 19681161376707505956807079304988542015446066515923890162744021073123829784752 28948022309329048855892746252171976963317496166410141009864396001978282409974 256 (by decide +kernel)).trans (by decide +kernel)
theorem rd_zero (a : Int) (ra : R256 a) : eqn (rd a) 0 = decide (a % P = 0) := by
  rw [eqn_eq _ _ (rd256 a) (by decide), decide_eq_decide, ← rd_int a ra.1]
  omega

theorem SqrtRatio_r (u v : Int) (ru : R256 u) (rv : R256 v) (w : World) :
    Calls Try.prog 52 #[fe u, fe v] w fun e w' => e = .returned (.tuple #[fe (ab (rootf u v)), .bool (okf u v)]) ∧ Chg w w' [] := by
  rw [rootf_eq, okf_eq]
  have zu := rd_zero u ru
  have zv := rd_zero v rv
  by_cases hu : u % P = 0
  · rw [decide_eq_true hu] at zu
    have hab : ab (rootB u v) = 0 ∧ okB u v = true := by
      by_cases hv : v % P = 0
      · obtain ⟨h1, h2⟩ := root_v0 u v hv
        exact ⟨h1, by rw [h2]; exact decide_eq_true hu⟩
      · have huv : (u * v) % P = 0 := by rw [Int.mul_emod, hu, Int.zero_mul]; rfl
        refine ⟨ab_zero _ (root_none u v huv).2, ?_⟩
        rcases root_main u v hv with ⟨h1, _, _⟩ | ⟨_, _, h3⟩
        · exact h1
        · exfalso
          rw [leg_ml] at h3
          have := (leg_of (u * v)).2.1 (pw_nought _ _ (by decide +kernel) huv)
          rw [this] at h3
          exact absurd h3 (by decide)
    rw [hab.1, hab.2]
    exact sr_u0 u v ru rv zu w
  · rw [decide_eq_false hu] at zu
    by_cases hv : v % P = 0
    · rw [decide_eq_true hv] at zv
      obtain ⟨h1, h2⟩ := root_v0 u v hv
      rw [h1, h2, decide_eq_false hu]
      exact sr_v0 u v ru rv zu zv w
    · rw [decide_eq_false hv] at zv
      obtain ⟨q, hq⟩ : ∃ q, q = u * pw v 57896044618658097711785492504343953926634992332820282019728792003956564819947 % P := ⟨_, rfl⟩
      have hvv : (pw v 57896044618658097711785492504343953926634992332820282019728792003956564819947 * v) % P = 1 := by
        have h := pw_mul v 57896044618658097711785492504343953926634992332820282019728792003956564819947 1 57896044618658097711785492504343953926634992332820282019728792003956564819948 (by decide +kernel)
        rw [pw_one, m_mul_r, pw_unit v hv] at h
        exact h
      have hqv : (q * v) % P = u % P := by
        rw [hq, m_mul_l, Int.mul_assoc, Int.mul_emod, hvv, Int.mul_one, mm]
      have hph : pw (u * v) 28948022309329048855892746252171976963317496166410141009864396001978282409974 = pw q 28948022309329048855892746252171976963317496166410141009864396001978282409974 := by
        have e1 : pw (u * v) 28948022309329048855892746252171976963317496166410141009864396001978282409974 = pw (q * v * v) 28948022309329048855892746252171976963317496166410141009864396001978282409974 := by
          rw [← pw_mod, ← pw_mod (q * v * v), Int.mul_emod, ← hqv, ← Int.mul_emod]
        have e2 : pw (v * v) 28948022309329048855892746252171976963317496166410141009864396001978282409974 = 1 := by
          rw [pw_prod, pw_mul v _ _ 57896044618658097711785492504343953926634992332820282019728792003956564819948 (by decide +kernel), pw_unit v hv]
        rw [e1, Int.mul_assoc, pw_prod, e2, Int.mul_one, pw_self]
      have hleg : leg q = leg (u * v % P) := by rw [leg_ml]; unfold leg; rw [hph]
      have hpw : pw q 28948022309329048855892746252171976963317496166410141009864396001978282409974 = 1 ∨ pw q 28948022309329048855892746252171976963317496166410141009864396001978282409974 = -1 % P := by
        rw [← hph]
        rcases t_cases u v hu hv with ⟨_, h⟩ | ⟨_, h⟩ | ⟨_, h⟩ | ⟨_, h⟩
        · exact Or.inl h
        · exact Or.inl h
        · exact Or.inr h
        · exact Or.inr h
      have rq : R256 q := by rw [hq]; exact r256_mod _
      rcases root_main u v hv with ⟨ho, hs, hl⟩ | ⟨ho, hs, hl⟩
      · rw [ho]
        have h1 : pw q 28948022309329048855892746252171976963317496166410141009864396001978282409974 = 1 := by
          rcases hpw with h | h
          · exact h
          · exfalso
            have := (leg_of q).2.2 h
            rw [hleg] at this
            omega
        have hA : (ab (rootB u v) * ab (rootB u v)) % P = q % P := by
          have h := hs.trans hqv.symm
          rw [m_mul_l, Int.mul_comm _ v, Int.mul_comm q v] at h
          exact cancel hv h
        have hB : rtr q = ab (rootB u v) := by
          have h := (rtr_sq q h1).trans hA.symm
          unfold rtr at h ⊢
          exact ab_uniq _ _ h
        exact sr_yes u v ru rv zu zv _ q rfl (r256_pw _ _) hq.symm rq _ ((leg_of q).1 h1).symm hB w
      · rw [ho]
        have hm1 : pw q 28948022309329048855892746252171976963317496166410141009864396001978282409974 = -1 % P := by
          rcases hpw with h | h
          · exfalso
            have := (leg_of q).1 h
            rw [hleg, hl] at this
            exact absurd this (by decide)
          · exact h
        obtain ⟨d, hd⟩ : ∃ d, d = q * S1 % P := ⟨_, rfl⟩
        have h1 : pw d 28948022309329048855892746252171976963317496166410141009864396001978282409974 = 1 := by
          rw [hd, pw_mod, pw_prod, hm1, pwS1]
          decide +kernel
        have hA : (ab (rootB u v) * ab (rootB u v)) % P = d % P := by
          have e : (d * v) % P = (S1 * u) % P := by
            rw [hd, m_mul_l, Int.mul_comm q S1, Int.mul_assoc, ← m_mul_r S1 (q * v), hqv, m_mul_r]
          have h := hs.trans e.symm
          rw [m_mul_l, Int.mul_comm _ v, Int.mul_comm d v] at h
          exact cancel hv h
        have hB : rtr d = ab (rootB u v) := by
          have h := (rtr_sq d h1).trans hA.symm
          unfold rtr at h ⊢
          exact ab_uniq _ _ h
        have hlq : leg q = -1 := by rw [hleg, hl]
        exact sr_no u v ru rv zu zv _ q rfl (r256_pw _ _) hq.symm rq _ (leg q) rfl (by rw [hlq]; decide) d hd.symm (by rw [hd]; exact r256_mod _) hB w
end Go.Proofs.Ytialljmkkichiaa
