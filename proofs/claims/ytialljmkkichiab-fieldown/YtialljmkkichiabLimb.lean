/- Plain arithmetic of five limbs of 51 bits. No Go in sight. -/
set_option linter.unusedVariables false
set_option linter.unusedSimpArgs false
set_option linter.unnecessarySimpa false
namespace Go.Proofs.Ytialljmkkichiab
namespace N

def P : Int := 57896044618658097711785492504343953926634992332820282019728792003956564819949
/-- The number of five limbs. -/
def V (x0 x1 x2 x3 x4 : Int) : Int := x0 + x1 * 2251799813685248 + x2 * 5070602400912917605986812821504 + x3 * 11417981541647679048466287755595961091061972992 + x4 * 25711008708143844408671393477458601640355247900524685364822016
/-- A limb that is loose: below 2^52. -/
def Lo (x : Int) : Prop := 0 ≤ x ∧ x < 4503599627370496
/-- A limb: below 2^51. -/
def Li (x : Int) : Prop := 0 ≤ x ∧ x < 2251799813685248
/-- A word. -/
def Wo (x : Int) : Prop := 0 ≤ x ∧ x < 18446744073709551616

theorem carry_val (x0 x1 x2 x3 x4 : Int) :
    V (x0 % 2251799813685248 + x4 / 2251799813685248 * 19) (x1 % 2251799813685248 + x0 / 2251799813685248) (x2 % 2251799813685248 + x1 / 2251799813685248) (x3 % 2251799813685248 + x2 / 2251799813685248) (x4 % 2251799813685248 + x3 / 2251799813685248) = V x0 x1 x2 x3 x4 - P * (x4 / 2251799813685248) := by
  unfold V P; omega

theorem carry_lo {x0 x4 : Int} (h0 : Wo x0) (h4 : Wo x4) : Lo (x0 % 2251799813685248 + x4 / 2251799813685248 * 19) ∧ Lo (x0 % 2251799813685248 + x4 / 2251799813685248) := by
  obtain ⟨_, _⟩ := h0; obtain ⟨_, _⟩ := h4; unfold Lo; omega

theorem carry_small {x0 x1 x2 x3 x4 : Int} (h0 : Wo x0) (h1 : Wo x1) (h2 : Wo x2) (h3 : Wo x3) (h4 : Wo x4) :
    0 ≤ V (x0 % 2251799813685248 + x4 / 2251799813685248 * 19) (x1 % 2251799813685248 + x0 / 2251799813685248) (x2 % 2251799813685248 + x1 / 2251799813685248) (x3 % 2251799813685248 + x2 / 2251799813685248) (x4 % 2251799813685248 + x3 / 2251799813685248) ∧
    V (x0 % 2251799813685248 + x4 / 2251799813685248 * 19) (x1 % 2251799813685248 + x0 / 2251799813685248) (x2 % 2251799813685248 + x1 / 2251799813685248) (x3 % 2251799813685248 + x2 / 2251799813685248) (x4 % 2251799813685248 + x3 / 2251799813685248) < 2 * P := by
  obtain ⟨_, _⟩ := h0; obtain ⟨_, _⟩ := h1; obtain ⟨_, _⟩ := h2; obtain ⟨_, _⟩ := h3; obtain ⟨_, _⟩ := h4
  unfold V P; omega

/-- The chain of the reduction's first half: does x + 19 reach 2^255? -/
theorem over_val {x0 x1 x2 x3 x4 : Int} (h : V x0 x1 x2 x3 x4 < 2 * P) (h0 : 0 ≤ V x0 x1 x2 x3 x4) :
    (x4 + (x3 + (x2 + (x1 + (x0 + 19) / 2251799813685248) / 2251799813685248) / 2251799813685248) / 2251799813685248) / 2251799813685248 = if P ≤ V x0 x1 x2 x3 x4 then 1 else 0 := by
  unfold V P at *
  generalize e0 : (x0 + 19) / 2251799813685248 = c0
  generalize e1 : (x1 + c0) / 2251799813685248 = c1
  generalize e2 : (x2 + c1) / 2251799813685248 = c2
  generalize e3 : (x3 + c2) / 2251799813685248 = c3
  generalize e4 : (x4 + c3) / 2251799813685248 = c4
  split <;> omega

theorem reduce_val {x0 x1 x2 x3 x4 o : Int} (h : V x0 x1 x2 x3 x4 < 2 * P) (h0 : 0 ≤ V x0 x1 x2 x3 x4) (ho : o = if P ≤ V x0 x1 x2 x3 x4 then 1 else 0) :
    V ((x0 + 19 * o) % 2251799813685248) ((x1 + (x0 + 19 * o) / 2251799813685248) % 2251799813685248) ((x2 + (x1 + (x0 + 19 * o) / 2251799813685248) / 2251799813685248) % 2251799813685248)
      ((x3 + (x2 + (x1 + (x0 + 19 * o) / 2251799813685248) / 2251799813685248) / 2251799813685248) % 2251799813685248)
      ((x4 + (x3 + (x2 + (x1 + (x0 + 19 * o) / 2251799813685248) / 2251799813685248) / 2251799813685248) / 2251799813685248) % 2251799813685248) = V x0 x1 x2 x3 x4 % P := by
  have hm : V x0 x1 x2 x3 x4 % P = V x0 x1 x2 x3 x4 - P * o := by
    rw [ho]; split
    · rw [Int.mul_one, ← Int.emod_eq_of_lt (a := V x0 x1 x2 x3 x4 - P) (b := P) (by omega) (by omega), Int.sub_emod_right]
    · rw [Int.mul_zero, Int.sub_zero]; exact Int.emod_eq_of_lt h0 (by omega)
  rw [hm]
  unfold V P at *
  generalize e0 : (x0 + 19 * o) / 2251799813685248 = c0
  generalize e1 : (x1 + c0) / 2251799813685248 = c1
  generalize e2 : (x2 + c1) / 2251799813685248 = c2
  generalize e3 : (x3 + c2) / 2251799813685248 = c3
  split at ho <;> subst ho <;> omega
def K (a1 a2 a3 a4 b1 b2 b3 b4 : Int) : Int := (a1 * b4 + a2 * b3 + a3 * b2 + a4 * b1) + (a2 * b4 + a3 * b3 + a4 * b2) * 2251799813685248 + (a3 * b4 + a4 * b3) * 5070602400912917605986812821504 + a4 * b4 * 11417981541647679048466287755595961091061972992
theorem mul_val (a0 a1 a2 a3 a4 b0 b1 b2 b3 b4 : Int) :
    V (a0 * b0 + a1 * 19 * b4 + a2 * 19 * b3 + a3 * 19 * b2 + a4 * 19 * b1) (a0 * b1 + a1 * b0 + a2 * 19 * b4 + a3 * 19 * b3 + a4 * 19 * b2) (a0 * b2 + a1 * b1 + a2 * b0 + a3 * 19 * b4 + a4 * 19 * b3)
      (a0 * b3 + a1 * b2 + a2 * b1 + a3 * b0 + a4 * 19 * b4) (a0 * b4 + a1 * b3 + a2 * b2 + a3 * b1 + a4 * b0) = V a0 a1 a2 a3 a4 * V b0 b1 b2 b3 b4 - P * K a1 a2 a3 a4 b1 b2 b3 b4 := by
  unfold V P K; grind
theorem sq_val (a0 a1 a2 a3 a4 : Int) :
    V (a0 * a0 + a1 * 38 * a4 + a2 * 38 * a3) (a0 * 2 * a1 + a2 * 38 * a4 + a3 * 19 * a3) (a0 * 2 * a2 + a1 * a1 + a3 * 38 * a4)
      (a0 * 2 * a3 + a1 * 2 * a2 + a4 * 19 * a4) (a0 * 2 * a4 + a1 * 2 * a3 + a2 * a2) = V a0 a1 a2 a3 a4 * V a0 a1 a2 a3 a4 - P * K a1 a2 a3 a4 a1 a2 a3 a4 := by
  unfold V P K; grind

theorem pb1 {a b : Int} (ha : Lo a) (hb : Lo b) : a * b ≤ 20282409603651661416747996545025 := by
  have := Int.mul_le_mul (show a ≤ 4503599627370495 by have := ha.2; omega) (show b ≤ 4503599627370495 by have := hb.2; omega) hb.1 (by decide)
  simpa using this
theorem pbk {a b : Int} (k : Int) (hk : 0 ≤ k) (ha : Lo a) (hb : Lo b) : a * k * b ≤ k * 20282409603651661416747996545025 := by
  have h := pb1 ha hb
  have e : a * k * b = k * (a * b) := by rw [Int.mul_comm a k, Int.mul_assoc]
  rw [e]
  exact Int.mul_le_mul_of_nonneg_left h hk
/-- Loose limbs that stand for n. -/
def LV (y0 y1 y2 y3 y4 n : Int) : Prop := (Lo y0 ∧ Lo y1 ∧ Lo y2 ∧ Lo y3 ∧ Lo y4) ∧ V y0 y1 y2 y3 y4 % P = n
theorem lo_wo {x : Int} (h : Lo x) : Wo x := ⟨h.1, by have := h.2; omega⟩
theorem bytes_val (y0 y1 y2 y3 y4 : Int) (h0 : Li y0) (h1 : Li y1) (h2 : Li y2) (h3 : Li y3) (h4 : Li y4) :
    (y0 + y1 * 2251799813685248 % 18446744073709551616) + (y1 / 8192 + y2 * 274877906944 % 18446744073709551616) * 18446744073709551616 + (y2 / 67108864 + y3 * 33554432 % 18446744073709551616) * 340282366920938463463374607431768211456 + (y3 / 549755813888 + y4 * 4096) * 6277101735386680763835789423207666416102355444464034512896 = V y0 y1 y2 y3 y4 := by
  obtain ⟨_, _⟩ := h0; obtain ⟨_, _⟩ := h1; obtain ⟨_, _⟩ := h2; obtain ⟨_, _⟩ := h3; obtain ⟨_, _⟩ := h4
  unfold V; omega
theorem add_val (a0 a1 a2 a3 a4 b0 b1 b2 b3 b4 : Int) : V (a0 + b0) (a1 + b1) (a2 + b2) (a3 + b3) (a4 + b4) = V a0 a1 a2 a3 a4 + V b0 b1 b2 b3 b4 := by unfold V; omega
theorem sub_val (a0 a1 a2 a3 a4 b0 b1 b2 b3 b4 : Int) : V (a0 + 9007199254740916 - b0) (a1 + 9007199254740988 - b1) (a2 + 9007199254740988 - b2) (a3 + 9007199254740988 - b3) (a4 + 9007199254740988 - b4) = V a0 a1 a2 a3 a4 - V b0 b1 b2 b3 b4 + P * 4 := by unfold V P; omega
end N
end Go.Proofs.Ytialljmkkichiab
