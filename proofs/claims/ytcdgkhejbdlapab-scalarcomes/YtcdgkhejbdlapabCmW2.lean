/- ScalarComes: the walk, its second half. -/
import Derived.Test.YtcdgkhejbdlapabCmB
import Derived.Test.YtcdgkhejbdlapabWorks
import Derived.Deep.DeepCutAuto
set_option linter.unusedVariables false
set_option linter.unusedSimpArgs false
set_option linter.unnecessarySimpa false
namespace Go.Proofs.Ytcdgkhejbdlapab
open Go.RowKit N

def fromRegC (k : Nat) : Code → Option Code
  | .seq (.region id o d) b => if id = k then some (.seq (.region id o d) b) else fromRegC k b
  | .seq _ b => fromRegC k b
  | _ => none
noncomputable def code17 : Code := (Try.f6.body.bind (fromRegC 17)).getD .skip
theorem u8_and1 (x : Nat) (h : x < 256) : bits .and .u8 (x : Int) 1 = ((x % 2 : Nat) : Int) := by
  have := u8_and_nat x 1 h (by decide)
  rw [Nat.and_one_is_mod] at this
  exact this
theorem bit_at (n j r : Nat) : n / 256 ^ j % 256 / 2 ^ r % 2 = if r < 8 then n / 2 ^ (8 * j + r) % 2 else 0 := by
  rw [Nat.pow_add, Nat.pow_mul, ← Nat.div_div_eq_div_mul]
  show n / 256 ^ j % 256 / 2 ^ r % 2 = if r < 8 then n / 256 ^ j / 2 ^ r % 2 else 0
  generalize n / 256 ^ j = X
  by_cases h : r < 8
  · rw [if_pos h]
    have hz : r = 0 ∨ r = 1 ∨ r = 2 ∨ r = 3 ∨ r = 4 ∨ r = 5 ∨ r = 6 ∨ r = 7 := by omega
    rcases hz with rfl | rfl | rfl | rfl | rfl | rfl | rfl | rfl <;> omega
  · rw [if_neg h]
    have hp : 2 ^ 8 ≤ 2 ^ r := Nat.pow_le_pow_right (by decide) (by omega)
    rw [Nat.div_eq_of_lt (by omega)]
/-- What a round of the bits' count wants to know. -/
theorem bit_facts (n i : Nat) (hi : i < 256) : ∃ j r b s t : Nat, j < 32 ∧ (i : Int).tdiv 8 = (j : Int) ∧ (i : Int).tmod 8 = (r : Int) ∧ r < 8 ∧ by8 (n : Int) j = (b : Int) ∧ (b : Int) / 2 ^ r = (s : Int) ∧ bits .and .u8 (s : Int) 1 = (t : Int) ∧ t ≤ 1 ∧ bs2 n (i + 1) = bs2 n i + t := by
  refine ⟨i / 8, i % 8, n / 256 ^ (i / 8) % 256, n / 256 ^ (i / 8) % 256 / 2 ^ (i % 8), n / 256 ^ (i / 8) % 256 / 2 ^ (i % 8) % 2, by omega, ?_, ?_, Nat.mod_lt _ (by decide), by8_nat n _, div_nat _ _, ?_, Nat.le_of_lt_succ (Nat.mod_lt _ (by decide)), ?_⟩
  · rw [Int.tdiv_eq_ediv_of_nonneg (by omega)]; omega
  · rw [Int.tmod_eq_emod_of_nonneg (by omega)]; omega
  · exact u8_and1 _ (Nat.lt_of_le_of_lt (Nat.div_le_self _ _) (Nat.mod_lt _ (by decide)))
  · rw [bit_at, if_pos (Nat.mod_lt _ (by decide)), show 8 * (i / 8) + i % 8 = i by omega]
    rfl
theorem bs2_le (n : Nat) : ∀ i, bs2 n i ≤ i
  | 0 => Nat.le_refl _
  | i + 1 => by
    have := bs2_le n i
    show bs2 n i + n / 2 ^ i % 2 ≤ i + 1
    have h : n / 2 ^ i % 2 < 2 := Nat.mod_lt _ (by decide)
    generalize n / 2 ^ i % 2 = x at *
    omega
theorem w64_le1 (t : Nat) (h : t ≤ 1) : wrap64 (t : Int) = (t : Int) := by unfold wrap64; omega
theorem w64_bt (B t i : Nat) (h1 : B ≤ i) (h2 : i < 256) (h3 : t ≤ 1) : wrap64 ((B : Int) + (t : Int)) = ((B + t : Nat) : Int) := by unfold wrap64; omega
theorem mC (i : Nat) (h : i < 256) : (256 - intOf (.int .i64 ((i : Int) + 1))).toNat < (256 - intOf (.int .i64 (i : Int))).toNat := by simp [intOf]; omega
/-- The loop over the digits: its relation. -/
def CR (q n : Nat) (tl tc ti : Value) : Prop :=
  ∃ (i c : Nat) (la : Int), i ≤ 256 ∧ ti = .int .i64 (i : Int) ∧ tc = .int .i64 (c : Int) ∧ tl = .int .i64 la ∧ c = cz (dn q n) i ∧ c ≤ i ∧ (c : Int) * (q : Int) ≤ la + (q : Int) ∧ la < (i : Int) ∧ (la = -(q : Int) ∨ ∃ p : Nat, la = (p : Int) ∧ p < i ∧ dn q n p ≠ 0)
theorem cr_zero (q n i c : Nat) (la : Int) (hi : i < 256) (hc : c = cz (dn q n) i) (h1 : c ≤ i) (h2 : (c : Int) * (q : Int) ≤ la + (q : Int)) (h3 : la < (i : Int)) (h4 : la = -(q : Int) ∨ ∃ p : Nat, la = (p : Int) ∧ p < i ∧ dn q n p ≠ 0) (hx : dn q n i = 0) : CR q n (.int .i64 la) (.int .i64 (c : Int)) (.int .i64 ((i : Int) + 1)) := by
  refine ⟨i + 1, c, la, by omega, by go_num, rfl, rfl, ?_, by omega, h2, by omega, ?_⟩
  · show c = cz (dn q n) i + (if dn q n i = 0 then 0 else 1)
    rw [if_pos hx, hc, Nat.add_zero]
  · rcases h4 with h | ⟨p, h, hp, hd⟩
    · exact Or.inl h
    · exact Or.inr ⟨p, h, by omega, hd⟩
theorem cr_gap (q n i : Nat) (la : Int) (hq : 2 ≤ q) (h4 : la = -(q : Int) ∨ ∃ p : Nat, la = (p : Int) ∧ p < i ∧ dn q n p ≠ 0) (hx : dn q n i ≠ 0) : ¬ ((i : Int) - la < (q : Int)) := by
  rcases h4 with h | ⟨p, h, hp, hd⟩
  · omega
  · intro hlt
    have := (dn_odd q n p hq hd).2.2.2.2 (i - p) (by omega) (by omega)
    rw [show p + (i - p) = i by omega] at this
    exact hx this
theorem cr_one (q n i c : Nat) (la : Int) (hq : 2 ≤ q) (hi : i < 256) (hc : c = cz (dn q n) i) (h1 : c ≤ i) (h2 : (c : Int) * (q : Int) ≤ la + (q : Int)) (h4 : la = -(q : Int) ∨ ∃ p : Nat, la = (p : Int) ∧ p < i ∧ dn q n p ≠ 0) (hx : dn q n i ≠ 0) : CR q n (.int .i64 (i : Int)) (.int .i64 ((c : Int) + 1)) (.int .i64 ((i : Int) + 1)) := by
  have hg := cr_gap q n i la hq h4 hx
  refine ⟨i + 1, c + 1, (i : Int), by omega, by go_num, by go_num, rfl, ?_, by omega, ?_, by omega, Or.inr ⟨i, rfl, by omega, hx⟩⟩
  · show c + 1 = cz (dn q n) i + (if dn q n i = 0 then 0 else 1)
    rw [if_neg hx, hc]
  · have e : ((c + 1 : Nat) : Int) * (q : Int) = (c : Int) * (q : Int) + (q : Int) := by rw [Int.natCast_add, Int.add_mul]; simp
    rw [e]
    generalize (c : Int) * (q : Int) = z at *
    omega
theorem few (q c : Nat) (la : Int) (hq : 2 ≤ q) (h2 : (c : Int) * (q : Int) ≤ la + (q : Int)) (h3 : la < 256) : (c : Int) ≤ (256 : Int).tdiv (q : Int) + 1 := by
  rw [Int.tdiv_eq_ediv_of_nonneg (by omega)]
  have h : (c : Int) * (q : Int) ≤ 255 + (q : Int) := by omega
  have hd : ((c : Int) - 1) * (q : Int) ≤ 256 := by rw [Int.sub_mul]; omega
  have := (Int.le_ediv_iff_mul_le (show (0 : Int) < (q : Int) by omega)).2 hd
  omega
theorem q_facts (q : Nat) (hq : 2 ≤ q) (hq8 : q ≤ 8) : ∃ Q : Nat, wrap64 (2 ^ (q - 1)) = (Q : Int) ∧ wrap64 (-(Q : Int)) = -(Q : Int) ∧ ((2 ^ (q - 1) : Nat) : Int) = (Q : Int) ∧ Q ≤ 128 := by
  have hp : 2 ^ (q - 1) ≤ 128 := Nat.pow_le_pow_right (n := 2) (by decide) (show q - 1 ≤ 7 by omega)
  refine ⟨2 ^ (q - 1), ?_, ?_, rfl, hp⟩
  · have e : (2 : Int) ^ (q - 1) = ((2 ^ (q - 1) : Nat) : Int) := by rw [Int.natCast_pow]; rfl
    rw [e]
    generalize 2 ^ (q - 1) = Q at *
    unfold wrap64; omega
  · generalize 2 ^ (q - 1) = Q at *
    unfold wrap64; omega
attribute [local irreducible] dn cz bs2 code17
set_option maxHeartbeats 16000000 in
set_option maxRecDepth 100000 in
theorem comes_t2 {c0 c1 c2 c3 c4 c6 c7 c10 c12 c13 c14 c15 c16 c17 c18 c19 c20 c21 c22 c23 c24 c25 c26 c27 c28 c29 c30 c31 c32 c33 c34 c35 c36 c37 c38 c39 c40 c41 c42 c43 c44 c45 c46 c47 c48 c49 c50 c51 c52 c53 c54 c55 c56 c57 c58 c59 c60 c61 c62 c63 c64 c65 c66 c67 c68 c69 c70 c71 c72 c73 c74 c75 c76 c77 c78 c79 c80 c81 c82 c83 c84 c85 c86 c87 c88 c89 c90 c91 c92 c93 c94 c95 c96 c97 c98 c99 c100 c101 c102 c103 c104 c105 c106 c107 c108 c109 c110 c111 c112 c113 c114 c115 c116 c117 c118 c119 c120 c121 c122 c123 c124 c125 c126 c127 c128 c129 c130 c131 c132 c133 c134 c135 c136 c137 c138 c139 c140 c141 c142 c143 c144 c145 c146 c147 c148 c149 c150 c151 c152 c153 c154 c155 c156 c157 c158 c159 c160 c161 c162 c163 c164 c165 c166 c167 c168 c169 c170 : Value} (n q g5 gl : Nat) (hq : 2 ≤ q) (hq8 : q ≤ 8) (w y : World) (F5 : Blk y g5 (feC (n : Int)) 23) (BL : Blk y gl (iC 256 (dn q n)) 3) (CC : Chg w y []) :
    Code.wp Try.prog code17 (bodyPost Try.prog Try.f6 (fun e w' => e = .returned (.bool true) ∧ Chg w w' [])) ⟨#[c0, c1, c2, c3, c4, .pointer (some ⟨g5, 0, none⟩), c6, c7, .int .i64 (q : Int), .slice (some ⟨gl, 0, none⟩) 256 256, c10, .int .i64 (-(q : Int)), c12, c13, c14, c15, c16, c17, c18, c19, c20, c21, c22, c23, c24, c25, c26, c27, c28, c29, c30, c31, c32, c33, c34, c35, c36, c37, c38, c39, c40, c41, c42, c43, c44, c45, c46, c47, c48, c49, c50, c51, c52, c53, c54, c55, c56, c57, c58, c59, c60, c61, c62, c63, c64, c65, c66, c67, c68, c69, c70, c71, c72, c73, c74, c75, c76, c77, c78, c79, c80, c81, c82, c83, c84, c85, c86, c87, c88, c89, c90, c91, c92, c93, c94, c95, c96, c97, c98, c99, c100, c101, c102, c103, c104, c105, c106, c107, c108, c109, c110, c111, c112, c113, c114, c115, c116, c117, c118, c119, c120, c121, c122, c123, c124, c125, c126, c127, c128, c129, c130, c131, c132, c133, c134, c135, c136, c137, c138, c139, c140, c141, c142, c143, c144, c145, c146, c147, c148, c149, c150, c151, c152, c153, c154, c155, c156, c157, c158, c159, c160, c161, c162, c163, c164, c165, c166, c167, c168, c169, c170], []⟩ y := by
  unfold code17
  conv => arg 2; whnf
  have HQ : Hid (2 ≤ q) := hq
  obtain ⟨Q, e1, e2, e3, e4⟩ := q_facts q hq hq8
  have hqi : (2 : Int) ≤ (q : Int) := by omega
  have hqi8 : (q : Int) ≤ 8 := by omega
  have HE3 : Hid (((2 ^ (q - 1) : Nat) : Int) = (Q : Int)) := e3
  have HE4 : Hid (Q ≤ 128) := e4
  clear e3 e4 hq hq8
  have z0 : cz (dn q n) 0 = 0 := by unfold cz; rfl
  have b0 : bs2 n 0 = 0 := by unfold bs2; rfl
  go_wp2_with fail
  go_loopw [11, 12, 13] (fun tl tc ti wr => CR q n tl tc ti ∧ wr = y) (fun _ _ ti _ => (256 - intOf ti).toNat)
  case atStart => exact ⟨⟨0, 0, -(q : Int), by decide, rfl, rfl, rfl, z0.symm, by decide, (by rw [show ((0 : Nat) : Int) * (q : Int) = 0 from by simp]; omega), by omega, Or.inl rfl⟩, rfl⟩
  case round =>
    obtain ⟨⟨i, c, la, hi, rfl, rfl, rfl, hc, h1, h2, h3, h4⟩, rfl⟩ := hrel
    by_cases h : i < 256
    · have hI : (i : Int) < 256 := by omega
      have cl : wr.cell? ⟨gl, i, none⟩ = some (.int .i64 (dn q n i)) := by rw [BL.cell, iC_get _ _ _ h]
      have HM : Hid _ := mC i h
      obtain ⟨x, hx⟩ : ∃ x, dn q n i = x := ⟨_, rfl⟩
      rw [hx] at cl
      by_cases hz : x = 0
      · subst hz
        have HR : Hid _ := cr_zero q n i c la h hc h1 h2 h3 h4 hx
        clear hx hc h1 h2 h3 h4 h hi z0 b0 F5 BL
        go_wp2_with fail
        exact ⟨⟨HR.out, by first | rfl | trivial⟩, HM.out⟩
      · have hd := dn_odd q n i HQ.out (by rw [hx]; exact hz)
        rw [hx, HE3.out] at hd
        have HR : Hid _ := cr_one q n i c la HQ.out h hc h1 h2 h4 (by rw [hx]; exact hz)
        have hg := cr_gap q n i la HQ.out h4 (by rw [hx]; exact hz)
        have f1 : bits .and .i64 x 1 = 1 := by rw [i64_and1]; exact hd.1
        have f2 : ¬ (Q : Int) ≤ x := by omega
        have f3 : ¬ x ≤ -(Q : Int) := by omega
        have hla : -8 ≤ la := by rcases h4 with h | ⟨p, h, _, _⟩ <;> omega
        obtain ⟨D, hD⟩ : ∃ D, (i : Int) - la = D := ⟨_, rfl⟩
        have f4 : wrap64 ((i : Int) - la) = D := by rw [← hD]; unfold wrap64; omega
        have f5 : ¬ D < (q : Int) := by rw [← hD]; exact hg
        have f6 : wrap64 ((c : Int) + 1) = (c : Int) + 1 := by unfold wrap64; omega
        clear hx hc h1 h2 h3 h4 h hi z0 b0 F5 BL hd hg hla hD
        go_wp2_with fail
        exact ⟨⟨by rw [f6]; exact HR.out, by first | rfl | trivial⟩, HM.out⟩
    · have hI : ¬ (i : Int) < 256 := by omega
      obtain rfl : i = 256 := by omega
      have HF : Hid ((c : Int) ≤ (256 : Int).tdiv (q : Int) + 1) := few q c la HQ.out h2 h3
      have HO : Hid (c ≤ bs2 n 256) := by show c ≤ bs2 n 256; rw [hc, bs2_all]; exact cz_all q n HQ.out
      have HC2 : Hid (c ≤ 256) := h1
      clear hc h1 h2 h3 h4 h hi z0 BL e1 e2
      go_wp2_with fail
      go_loopw [14, 15] (fun tn ti wx => ∃ i : Nat, i ≤ 256 ∧ ti = .int .i64 (i : Int) ∧ tn = .int .i64 ((bs2 n i : Nat) : Int) ∧ wx = wr) (fun _ ti _ => (256 - intOf ti).toNat)
      case atStart => exact ⟨0, by decide, rfl, by rw [b0]; rfl, rfl⟩
      case round =>
        obtain ⟨i, hi, rfl, rfl, rfl⟩ := hrel
        by_cases h : i < 256
        · have hI2 : (i : Int) < 256 := by omega
          obtain ⟨j, r, b, s, t, hj, k1, k2, k3, k4, k5, k6, k7, k8⟩ := bit_facts n i h
          have HM : Hid _ := mC i h
          have HI1 : Hid (i + 1 ≤ 256) := h
          have cl : wr.cell? ⟨g5, j, none⟩ = some (.int .u8 (b : Int)) := by rw [F5.cell, feC_get _ j hj, k4]
          have hjI : (j : Int) < 32 := Int.ofNat_lt.2 hj
          have hrI : (r : Int) < 8 := Int.ofNat_lt.2 k3
          have k9 := w64_le1 t k7
          have hb := bs2_le n i
          have HK8 : Hid (bs2 n (i + 1) = bs2 n i + t) := k8
          obtain ⟨B, hB⟩ : ∃ B, bs2 n i = B := ⟨_, rfl⟩
          rw [hB] at hb
          have k10 := w64_bt B t i hb h k7
          have HB : Hid (bs2 n i = B) := hB
          rw [hB]
          obtain ⟨B2, hB2⟩ : ∃ x, B + t = x := ⟨_, rfl⟩
          rw [hB2] at k10
          have HB2 : Hid (bs2 n (i + 1) = B2) := by show bs2 n (i + 1) = B2; rw [HK8.out, HB.out, hB2]
          clear h hi hj k3 k4 k7 k8 hb hB hB2 F5
          go_wp2_with fail
          exact ⟨⟨i + 1, HI1.out, by go_num, by first | rw [HB2.out, k10] | rw [HB2.out], by first | rfl | trivial⟩, HM.out⟩
        · have hI2 : ¬ (i : Int) < 256 := by omega
          obtain rfl : i = 256 := by omega
          obtain ⟨B, hB⟩ : ∃ B, bs2 n 256 = B := ⟨_, rfl⟩
          have hO := HO.out
          rw [hB] at hO ⊢
          have hF := HF.out
          obtain ⟨d, hd⟩ : ∃ d, (256 : Int).tdiv (q : Int) = d := ⟨_, rfl⟩
          rw [hd] at hF
          have hd0 : 0 ≤ d := by rw [← hd]; exact Int.tdiv_nonneg (by decide) (by omega)
          have hd1 : d ≤ 256 := by rw [← hd, Int.tdiv_eq_ediv_of_nonneg (by decide)]; exact Int.ediv_le_self _ (by decide)
          have u1 : wrap64 (d + 1) = d + 1 := by unfold wrap64; omega
          have u2 : wrap64 d = d := by unfold wrap64; omega
          have u3 : (c : Int) ≤ (B : Int) := by omega
          have u4 : ¬ (q : Int) = 0 := by omega
          go_wp2_with fail
          refine (works_true _).mono ?_
          rintro e y9 ⟨rfl, k⟩
          go_wp2_with fail
          go_ret
          exact ⟨rfl, CC.trans1 k⟩
end Go.Proofs.Ytcdgkhejbdlapab
