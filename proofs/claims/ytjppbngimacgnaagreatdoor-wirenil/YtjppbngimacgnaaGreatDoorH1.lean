/- word, putWord, ror, turned, choice, majority. -/
import Derived.Test.YtjppbngimacgnaaGreatDoorS
set_option linter.unusedVariables false
set_option linter.unusedSimpArgs false
set_option linter.unnecessarySimpa false
namespace Go.Proofs.YtjppbngimacgnaaGreatDoor
open Go.RowKit

set_option maxHeartbeats 4000000 in
set_option maxRecDepth 100000 in
theorem word_any (g o n c : Nat) (b0 b1 b2 b3 b4 b5 b6 b7 : Int) (w : World) (hn : 8 ≤ n)
    (h0 : 0 ≤ b0 ∧ b0 < 256) (h1 : 0 ≤ b1 ∧ b1 < 256) (h2 : 0 ≤ b2 ∧ b2 < 256) (h3 : 0 ≤ b3 ∧ b3 < 256) (h4 : 0 ≤ b4 ∧ b4 < 256) (h5 : 0 ≤ b5 ∧ b5 < 256) (h6 : 0 ≤ b6 ∧ b6 < 256) (h7 : 0 ≤ b7 ∧ b7 < 256)
    (c0 : w.cell? ⟨g, o, none⟩ = some (.int .u8 b0)) (c1 : w.cell? ⟨g, o + 1, none⟩ = some (.int .u8 b1)) (c2 : w.cell? ⟨g, o + 2, none⟩ = some (.int .u8 b2)) (c3 : w.cell? ⟨g, o + 3, none⟩ = some (.int .u8 b3)) (c4 : w.cell? ⟨g, o + 4, none⟩ = some (.int .u8 b4)) (c5 : w.cell? ⟨g, o + 5, none⟩ = some (.int .u8 b5)) (c6 : w.cell? ⟨g, o + 6, none⟩ = some (.int .u8 b6)) (c7 : w.cell? ⟨g, o + 7, none⟩ = some (.int .u8 b7)) :
    Calls Tryz.prog 92 #[.slice (some ⟨g, o, none⟩) n c] w fun e w' => e = .returned (.int .u64 (b7 + b6 * 256 + b5 * 65536 + b4 * 16777216 + b3 * 4294967296 + b2 * 1099511627776 + b1 * 281474976710656 + b0 * 72057594037927936)) ∧ ∃ m, w' = w.drewN m := by
  obtain ⟨l0, u0⟩ := h0; obtain ⟨l1, u1⟩ := h1; obtain ⟨l2, u2⟩ := h2; obtain ⟨l3, u3⟩ := h3; obtain ⟨l4, u4⟩ := h4; obtain ⟨l5, u5⟩ := h5; obtain ⟨l6, u6⟩ := h6; obtain ⟨l7, u7⟩ := h7
  have q0 : (0 : Int) < (n : Int) := by omega
  have q1 : (1 : Int) < (n : Int) := by omega
  have q2 : (2 : Int) < (n : Int) := by omega
  have q3 : (3 : Int) < (n : Int) := by omega
  have q4 : (4 : Int) < (n : Int) := by omega
  have q5 : (5 : Int) < (n : Int) := by omega
  have q6 : (6 : Int) < (n : Int) := by omega
  have q7 : (7 : Int) < (n : Int) := by omega
  have m1 : bits .or .u64 (b7) (b6 * 256) = b7 + b6 * 256 := or_join 8 _ _ (by decide) (by omega) (by simp only [Int.reducePow]; omega) (by omega) (by omega) (by simp only [Int.reducePow]; omega)
  have m2 : bits .or .u64 (b7 + b6 * 256) (b5 * 65536) = b7 + b6 * 256 + b5 * 65536 := or_join 16 _ _ (by decide) (by omega) (by simp only [Int.reducePow]; omega) (by omega) (by omega) (by simp only [Int.reducePow]; omega)
  have m3 : bits .or .u64 (b7 + b6 * 256 + b5 * 65536) (b4 * 16777216) = b7 + b6 * 256 + b5 * 65536 + b4 * 16777216 := or_join 24 _ _ (by decide) (by omega) (by simp only [Int.reducePow]; omega) (by omega) (by omega) (by simp only [Int.reducePow]; omega)
  have m4 : bits .or .u64 (b7 + b6 * 256 + b5 * 65536 + b4 * 16777216) (b3 * 4294967296) = b7 + b6 * 256 + b5 * 65536 + b4 * 16777216 + b3 * 4294967296 := or_join 32 _ _ (by decide) (by omega) (by simp only [Int.reducePow]; omega) (by omega) (by omega) (by simp only [Int.reducePow]; omega)
  have m5 : bits .or .u64 (b7 + b6 * 256 + b5 * 65536 + b4 * 16777216 + b3 * 4294967296) (b2 * 1099511627776) = b7 + b6 * 256 + b5 * 65536 + b4 * 16777216 + b3 * 4294967296 + b2 * 1099511627776 := or_join 40 _ _ (by decide) (by omega) (by simp only [Int.reducePow]; omega) (by omega) (by omega) (by simp only [Int.reducePow]; omega)
  have m6 : bits .or .u64 (b7 + b6 * 256 + b5 * 65536 + b4 * 16777216 + b3 * 4294967296 + b2 * 1099511627776) (b1 * 281474976710656) = b7 + b6 * 256 + b5 * 65536 + b4 * 16777216 + b3 * 4294967296 + b2 * 1099511627776 + b1 * 281474976710656 := or_join 48 _ _ (by decide) (by omega) (by simp only [Int.reducePow]; omega) (by omega) (by omega) (by simp only [Int.reducePow]; omega)
  have m7 : bits .or .u64 (b7 + b6 * 256 + b5 * 65536 + b4 * 16777216 + b3 * 4294967296 + b2 * 1099511627776 + b1 * 281474976710656) (b0 * 72057594037927936) = b7 + b6 * 256 + b5 * 65536 + b4 * 16777216 + b3 * 4294967296 + b2 * 1099511627776 + b1 * 281474976710656 + b0 * 72057594037927936 := or_join 56 _ _ (by decide) (by omega) (by simp only [Int.reducePow]; omega) (by omega) (by omega) (by simp only [Int.reducePow]; omega)
  go_enter Tryz.func92, Tryz.ntmps92
  go_wp2
  go_quiet (fail)
  go_wp2
  go_ret
  exact ⟨rfl, _, rfl⟩
theorem word_s (g o n c : Nat) (b : Nat → Nat) (w : World) (hn : 8 ≤ n) (hb : ∀ i, i < 8 → b i < 256) (hc : ∀ i, i < 8 → w.cell? ⟨g, o + i, none⟩ = some (.int .u8 (b i))) :
    Calls Tryz.prog 92 #[.slice (some ⟨g, o, none⟩) n c] w fun e w' => e = .returned (.int .u64 (wd b : Nat)) ∧ ∃ m, w' = w.drewN m := by
  have B : ∀ i, i < 8 → 0 ≤ (b i : Int) ∧ (b i : Int) < 256 := fun i hi => by have := hb i hi; omega
  have h := word_any g o n c (b 0) (b 1) (b 2) (b 3) (b 4) (b 5) (b 6) (b 7) w hn (B 0 (by omega)) (B 1 (by omega)) (B 2 (by omega)) (B 3 (by omega)) (B 4 (by omega)) (B 5 (by omega)) (B 6 (by omega)) (B 7 (by omega))
    (hc 0 (by omega)) (hc 1 (by omega)) (hc 2 (by omega)) (hc 3 (by omega)) (hc 4 (by omega)) (hc 5 (by omega)) (hc 6 (by omega)) (hc 7 (by omega))
  have e : ((wd b : Nat) : Int) = (b 7 : Int) + b 6 * 256 + b 5 * 65536 + b 4 * 16777216 + b 3 * 4294967296 + b 2 * 1099511627776 + b 1 * 281474976710656 + b 0 * 72057594037927936 := by unfold wd; omega
  rw [e]
  exact h

set_option maxHeartbeats 4000000 in
set_option maxRecDepth 100000 in
theorem putWord_any (g o n c : Nat) (v : Int) (hn : 8 ≤ n) (hv : 0 ≤ v) (hv1 : v < 18446744073709551616) (x0 x1 x2 x3 x4 x5 x6 x7 : Value) (w : World)
    (c0 : w.cell? ⟨g, o, none⟩ = some x0) (c1 : w.cell? ⟨g, o + 1, none⟩ = some x1) (c2 : w.cell? ⟨g, o + 2, none⟩ = some x2) (c3 : w.cell? ⟨g, o + 3, none⟩ = some x3) (c4 : w.cell? ⟨g, o + 4, none⟩ = some x4) (c5 : w.cell? ⟨g, o + 5, none⟩ = some x5) (c6 : w.cell? ⟨g, o + 6, none⟩ = some x6) (c7 : w.cell? ⟨g, o + 7, none⟩ = some x7)
    (f0 : w.frozen? ⟨g, o, none⟩ = false) (f1 : w.frozen? ⟨g, o + 1, none⟩ = false) (f2 : w.frozen? ⟨g, o + 2, none⟩ = false) (f3 : w.frozen? ⟨g, o + 3, none⟩ = false) (f4 : w.frozen? ⟨g, o + 4, none⟩ = false) (f5 : w.frozen? ⟨g, o + 5, none⟩ = false) (f6 : w.frozen? ⟨g, o + 6, none⟩ = false) (f7 : w.frozen? ⟨g, o + 7, none⟩ = false) :
    Calls Tryz.prog 78 #[.slice (some ⟨g, o, none⟩) n c, .int .u64 v] w fun e w' => e = .returned (.tuple #[]) ∧ w' = ((((((((w.setCell ⟨g, o, none⟩ (.int .u8 (v / 72057594037927936 % 256))).setCell ⟨g, o + 1, none⟩ (.int .u8 (v / 281474976710656 % 256))).setCell ⟨g, o + 2, none⟩ (.int .u8 (v / 1099511627776 % 256))).setCell ⟨g, o + 3, none⟩ (.int .u8 (v / 4294967296 % 256))).setCell ⟨g, o + 4, none⟩ (.int .u8 (v / 16777216 % 256))).setCell ⟨g, o + 5, none⟩ (.int .u8 (v / 65536 % 256))).setCell ⟨g, o + 6, none⟩ (.int .u8 (v / 256 % 256))).setCell ⟨g, o + 7, none⟩ (.int .u8 (v % 256))) := by
  have q0 : (0 : Int) < (n : Int) := by omega
  have q1 : (1 : Int) < (n : Int) := by omega
  have q2 : (2 : Int) < (n : Int) := by omega
  have q3 : (3 : Int) < (n : Int) := by omega
  have q4 : (4 : Int) < (n : Int) := by omega
  have q5 : (5 : Int) < (n : Int) := by omega
  have q6 : (6 : Int) < (n : Int) := by omega
  have q7 : (7 : Int) < (n : Int) := by omega
  go_enter Tryz.func78, Tryz.ntmps78
  go_wp2
  go_end0
  rw [show v / 72057594037927936 % 256 = v / 72057594037927936 from by omega]
  exact ⟨rfl, rfl⟩
/-- Eight bytes of v, laid at o, the highest first. -/
def pw (f : Nat → Nat) (o v : Nat) : Nat → Nat := fun j => if o ≤ j ∧ j < o + 8 then v / 256 ^ (7 - (j - o)) % 256 else f j
theorem putWord_s (g o n c N : Nat) (f : Nat → Nat) (v : Nat) (T : TypeId) (w : World) (hn : 8 ≤ n) (hv : U v) (ho : o + 8 ≤ N) (hb : Blk w g (yC N f) T) :
    Calls Tryz.prog 78 #[.slice (some ⟨g, o, none⟩) n c, .int .u64 v] w fun e w' => e = .returned (.tuple #[]) ∧ Blk w' g (yC N (pw f o v)) T ∧ Chg w w' [g] := by
  have hc : ∀ i, i < 8 → w.cell? ⟨g, o + i, none⟩ = some (.int .u8 (f (o + i))) := fun i hi => by rw [hb.cell, yC_get _ _ _ (by omega)]
  unfold U at hv
  refine (putWord_any g o n c v hn (by omega) (by omega) _ _ _ _ _ _ _ _ w (hc 0 (by omega)) (hc 1 (by omega)) (hc 2 (by omega)) (hc 3 (by omega)) (hc 4 (by omega)) (hc 5 (by omega)) (hc 6 (by omega)) (hc 7 (by omega))
    (hb.frozen _) (hb.frozen _) (hb.frozen _) (hb.frozen _) (hb.frozen _) (hb.frozen _) (hb.frozen _) (hb.frozen _)).mono ?_
  rintro e w' ⟨rfl, rfl⟩
  refine ⟨rfl, ?_, ?_⟩
  · have k := (((((((hb.setCell o (.int .u8 ((v / 72057594037927936 % 256 : Nat)))).setCell (o + 1) (.int .u8 ((v / 281474976710656 % 256 : Nat)))).setCell (o + 2) (.int .u8 ((v / 1099511627776 % 256 : Nat)))).setCell (o + 3) (.int .u8 ((v / 4294967296 % 256 : Nat)))).setCell (o + 4) (.int .u8 ((v / 16777216 % 256 : Nat)))).setCell (o + 5) (.int .u8 ((v / 65536 % 256 : Nat)))).setCell (o + 6) (.int .u8 ((v / 256 % 256 : Nat)))).setCell (o + 7) (.int .u8 ((v % 256 : Nat)))
    simp only [yC_set] at k
    refine k.to (yC_eq fun j hj => ?_)
    unfold up pw
    by_cases h : o ≤ j ∧ j < o + 8
    · rw [if_pos h]
      obtain ⟨i, hi, rfl⟩ : ∃ i, i < 8 ∧ j = o + i := ⟨j - o, by omega, by omega⟩
      have hcs : i = 0 ∨ i = 1 ∨ i = 2 ∨ i = 3 ∨ i = 4 ∨ i = 5 ∨ i = 6 ∨ i = 7 := by omega
      rw [Nat.add_sub_cancel_left]
      rcases hcs with rfl | rfl | rfl | rfl | rfl | rfl | rfl | rfl <;> simp
    · rw [if_neg h]
      simp only [show ¬ j = o + 7 from by omega, show ¬ j = o + 6 from by omega, show ¬ j = o + 5 from by omega, show ¬ j = o + 4 from by omega, show ¬ j = o + 3 from by omega, show ¬ j = o + 2 from by omega, show ¬ j = o + 1 from by omega, show ¬ j = o from by omega, if_false]
  · have hm : g ∈ [g] := by simp
    exact (((((((((Chg.refl w [g]).setIn hm _ _).setIn hm _ _).setIn hm _ _).setIn hm _ _).setIn hm _ _).setIn hm _ _).setIn hm _ _).setIn hm _ _)

theorem ror_1 (x : Nat) (hx : U x) (w : World) : Calls Tryz.prog 93 #[.int .u64 x, .int .i64 1] w fun e w' => e = .returned (.int .u64 (rr 1 x : Nat)) ∧ w' = w := by
  unfold U at hx
  have e0 : IntKind.u64.wrap (-1) = 18446744073709551615 := by decide
  have e1 : bits .and .u64 18446744073709551615 63 = 63 := by decide
  have e2 : bits .or .u64 (IntKind.u64.wrap ((x : Int) * 9223372036854775808)) ((x : Int) / 2) = ((rr 1 x : Nat) : Int) := by
    rw [IntKind.wrap_u64]
    have h1 : ((x : Int) * 9223372036854775808) % 18446744073709551616 = ((x * 9223372036854775808 % 18446744073709551616 : Nat) : Int) := by omega
    have h2 : (x : Int) / 2 = ((x / 2 : Nat) : Int) := by omega
    rw [h1, h2, u64_or_nat _ _ (by omega) (by omega), Nat.or_comm]
    unfold rr
    rw [Nat.shiftLeft_eq, Nat.shiftRight_eq_div_pow]
  go_enter Tryz.func93, Tryz.ntmps93
  go_wp2
  go_ret
  exact ⟨by rw [← e2]; rfl, rfl⟩

theorem ror_8 (x : Nat) (hx : U x) (w : World) : Calls Tryz.prog 93 #[.int .u64 x, .int .i64 8] w fun e w' => e = .returned (.int .u64 (rr 8 x : Nat)) ∧ w' = w := by
  unfold U at hx
  have e0 : IntKind.u64.wrap (-8) = 18446744073709551608 := by decide
  have e1 : bits .and .u64 18446744073709551608 63 = 56 := by decide
  have e2 : bits .or .u64 (IntKind.u64.wrap ((x : Int) * 72057594037927936)) ((x : Int) / 256) = ((rr 8 x : Nat) : Int) := by
    rw [IntKind.wrap_u64]
    have h1 : ((x : Int) * 72057594037927936) % 18446744073709551616 = ((x * 72057594037927936 % 18446744073709551616 : Nat) : Int) := by omega
    have h2 : (x : Int) / 256 = ((x / 256 : Nat) : Int) := by omega
    rw [h1, h2, u64_or_nat _ _ (by omega) (by omega), Nat.or_comm]
    unfold rr
    rw [Nat.shiftLeft_eq, Nat.shiftRight_eq_div_pow]
  go_enter Tryz.func93, Tryz.ntmps93
  go_wp2
  go_ret
  exact ⟨by rw [← e2]; rfl, rfl⟩

theorem ror_14 (x : Nat) (hx : U x) (w : World) : Calls Tryz.prog 93 #[.int .u64 x, .int .i64 14] w fun e w' => e = .returned (.int .u64 (rr 14 x : Nat)) ∧ w' = w := by
  unfold U at hx
  have e0 : IntKind.u64.wrap (-14) = 18446744073709551602 := by decide
  have e1 : bits .and .u64 18446744073709551602 63 = 50 := by decide
  have e2 : bits .or .u64 (IntKind.u64.wrap ((x : Int) * 1125899906842624)) ((x : Int) / 16384) = ((rr 14 x : Nat) : Int) := by
    rw [IntKind.wrap_u64]
    have h1 : ((x : Int) * 1125899906842624) % 18446744073709551616 = ((x * 1125899906842624 % 18446744073709551616 : Nat) : Int) := by omega
    have h2 : (x : Int) / 16384 = ((x / 16384 : Nat) : Int) := by omega
    rw [h1, h2, u64_or_nat _ _ (by omega) (by omega), Nat.or_comm]
    unfold rr
    rw [Nat.shiftLeft_eq, Nat.shiftRight_eq_div_pow]
  go_enter Tryz.func93, Tryz.ntmps93
  go_wp2
  go_ret
  exact ⟨by rw [← e2]; rfl, rfl⟩

theorem ror_18 (x : Nat) (hx : U x) (w : World) : Calls Tryz.prog 93 #[.int .u64 x, .int .i64 18] w fun e w' => e = .returned (.int .u64 (rr 18 x : Nat)) ∧ w' = w := by
  unfold U at hx
  have e0 : IntKind.u64.wrap (-18) = 18446744073709551598 := by decide
  have e1 : bits .and .u64 18446744073709551598 63 = 46 := by decide
  have e2 : bits .or .u64 (IntKind.u64.wrap ((x : Int) * 70368744177664)) ((x : Int) / 262144) = ((rr 18 x : Nat) : Int) := by
    rw [IntKind.wrap_u64]
    have h1 : ((x : Int) * 70368744177664) % 18446744073709551616 = ((x * 70368744177664 % 18446744073709551616 : Nat) : Int) := by omega
    have h2 : (x : Int) / 262144 = ((x / 262144 : Nat) : Int) := by omega
    rw [h1, h2, u64_or_nat _ _ (by omega) (by omega), Nat.or_comm]
    unfold rr
    rw [Nat.shiftLeft_eq, Nat.shiftRight_eq_div_pow]
  go_enter Tryz.func93, Tryz.ntmps93
  go_wp2
  go_ret
  exact ⟨by rw [← e2]; rfl, rfl⟩

theorem ror_19 (x : Nat) (hx : U x) (w : World) : Calls Tryz.prog 93 #[.int .u64 x, .int .i64 19] w fun e w' => e = .returned (.int .u64 (rr 19 x : Nat)) ∧ w' = w := by
  unfold U at hx
  have e0 : IntKind.u64.wrap (-19) = 18446744073709551597 := by decide
  have e1 : bits .and .u64 18446744073709551597 63 = 45 := by decide
  have e2 : bits .or .u64 (IntKind.u64.wrap ((x : Int) * 35184372088832)) ((x : Int) / 524288) = ((rr 19 x : Nat) : Int) := by
    rw [IntKind.wrap_u64]
    have h1 : ((x : Int) * 35184372088832) % 18446744073709551616 = ((x * 35184372088832 % 18446744073709551616 : Nat) : Int) := by omega
    have h2 : (x : Int) / 524288 = ((x / 524288 : Nat) : Int) := by omega
    rw [h1, h2, u64_or_nat _ _ (by omega) (by omega), Nat.or_comm]
    unfold rr
    rw [Nat.shiftLeft_eq, Nat.shiftRight_eq_div_pow]
  go_enter Tryz.func93, Tryz.ntmps93
  go_wp2
  go_ret
  exact ⟨by rw [← e2]; rfl, rfl⟩

theorem ror_28 (x : Nat) (hx : U x) (w : World) : Calls Tryz.prog 93 #[.int .u64 x, .int .i64 28] w fun e w' => e = .returned (.int .u64 (rr 28 x : Nat)) ∧ w' = w := by
  unfold U at hx
  have e0 : IntKind.u64.wrap (-28) = 18446744073709551588 := by decide
  have e1 : bits .and .u64 18446744073709551588 63 = 36 := by decide
  have e2 : bits .or .u64 (IntKind.u64.wrap ((x : Int) * 68719476736)) ((x : Int) / 268435456) = ((rr 28 x : Nat) : Int) := by
    rw [IntKind.wrap_u64]
    have h1 : ((x : Int) * 68719476736) % 18446744073709551616 = ((x * 68719476736 % 18446744073709551616 : Nat) : Int) := by omega
    have h2 : (x : Int) / 268435456 = ((x / 268435456 : Nat) : Int) := by omega
    rw [h1, h2, u64_or_nat _ _ (by omega) (by omega), Nat.or_comm]
    unfold rr
    rw [Nat.shiftLeft_eq, Nat.shiftRight_eq_div_pow]
  go_enter Tryz.func93, Tryz.ntmps93
  go_wp2
  go_ret
  exact ⟨by rw [← e2]; rfl, rfl⟩

theorem ror_34 (x : Nat) (hx : U x) (w : World) : Calls Tryz.prog 93 #[.int .u64 x, .int .i64 34] w fun e w' => e = .returned (.int .u64 (rr 34 x : Nat)) ∧ w' = w := by
  unfold U at hx
  have e0 : IntKind.u64.wrap (-34) = 18446744073709551582 := by decide
  have e1 : bits .and .u64 18446744073709551582 63 = 30 := by decide
  have e2 : bits .or .u64 (IntKind.u64.wrap ((x : Int) * 1073741824)) ((x : Int) / 17179869184) = ((rr 34 x : Nat) : Int) := by
    rw [IntKind.wrap_u64]
    have h1 : ((x : Int) * 1073741824) % 18446744073709551616 = ((x * 1073741824 % 18446744073709551616 : Nat) : Int) := by omega
    have h2 : (x : Int) / 17179869184 = ((x / 17179869184 : Nat) : Int) := by omega
    rw [h1, h2, u64_or_nat _ _ (by omega) (by omega), Nat.or_comm]
    unfold rr
    rw [Nat.shiftLeft_eq, Nat.shiftRight_eq_div_pow]
  go_enter Tryz.func93, Tryz.ntmps93
  go_wp2
  go_ret
  exact ⟨by rw [← e2]; rfl, rfl⟩

theorem ror_39 (x : Nat) (hx : U x) (w : World) : Calls Tryz.prog 93 #[.int .u64 x, .int .i64 39] w fun e w' => e = .returned (.int .u64 (rr 39 x : Nat)) ∧ w' = w := by
  unfold U at hx
  have e0 : IntKind.u64.wrap (-39) = 18446744073709551577 := by decide
  have e1 : bits .and .u64 18446744073709551577 63 = 25 := by decide
  have e2 : bits .or .u64 (IntKind.u64.wrap ((x : Int) * 33554432)) ((x : Int) / 549755813888) = ((rr 39 x : Nat) : Int) := by
    rw [IntKind.wrap_u64]
    have h1 : ((x : Int) * 33554432) % 18446744073709551616 = ((x * 33554432 % 18446744073709551616 : Nat) : Int) := by omega
    have h2 : (x : Int) / 549755813888 = ((x / 549755813888 : Nat) : Int) := by omega
    rw [h1, h2, u64_or_nat _ _ (by omega) (by omega), Nat.or_comm]
    unfold rr
    rw [Nat.shiftLeft_eq, Nat.shiftRight_eq_div_pow]
  go_enter Tryz.func93, Tryz.ntmps93
  go_wp2
  go_ret
  exact ⟨by rw [← e2]; rfl, rfl⟩

theorem ror_41 (x : Nat) (hx : U x) (w : World) : Calls Tryz.prog 93 #[.int .u64 x, .int .i64 41] w fun e w' => e = .returned (.int .u64 (rr 41 x : Nat)) ∧ w' = w := by
  unfold U at hx
  have e0 : IntKind.u64.wrap (-41) = 18446744073709551575 := by decide
  have e1 : bits .and .u64 18446744073709551575 63 = 23 := by decide
  have e2 : bits .or .u64 (IntKind.u64.wrap ((x : Int) * 8388608)) ((x : Int) / 2199023255552) = ((rr 41 x : Nat) : Int) := by
    rw [IntKind.wrap_u64]
    have h1 : ((x : Int) * 8388608) % 18446744073709551616 = ((x * 8388608 % 18446744073709551616 : Nat) : Int) := by omega
    have h2 : (x : Int) / 2199023255552 = ((x / 2199023255552 : Nat) : Int) := by omega
    rw [h1, h2, u64_or_nat _ _ (by omega) (by omega), Nat.or_comm]
    unfold rr
    rw [Nat.shiftLeft_eq, Nat.shiftRight_eq_div_pow]
  go_enter Tryz.func93, Tryz.ntmps93
  go_wp2
  go_ret
  exact ⟨by rw [← e2]; rfl, rfl⟩

theorem ror_61 (x : Nat) (hx : U x) (w : World) : Calls Tryz.prog 93 #[.int .u64 x, .int .i64 61] w fun e w' => e = .returned (.int .u64 (rr 61 x : Nat)) ∧ w' = w := by
  unfold U at hx
  have e0 : IntKind.u64.wrap (-61) = 18446744073709551555 := by decide
  have e1 : bits .and .u64 18446744073709551555 63 = 3 := by decide
  have e2 : bits .or .u64 (IntKind.u64.wrap ((x : Int) * 8)) ((x : Int) / 2305843009213693952) = ((rr 61 x : Nat) : Int) := by
    rw [IntKind.wrap_u64]
    have h1 : ((x : Int) * 8) % 18446744073709551616 = ((x * 8 % 18446744073709551616 : Nat) : Int) := by omega
    have h2 : (x : Int) / 2305843009213693952 = ((x / 2305843009213693952 : Nat) : Int) := by omega
    rw [h1, h2, u64_or_nat _ _ (by omega) (by omega), Nat.or_comm]
    unfold rr
    rw [Nat.shiftLeft_eq, Nat.shiftRight_eq_div_pow]
  go_enter Tryz.func93, Tryz.ntmps93
  go_wp2
  go_ret
  exact ⟨by rw [← e2]; rfl, rfl⟩

theorem turned_14 (x : Nat) (hx : U x) (w : World) : Calls Tryz.prog 87 #[.int .u64 x, .int .i64 14, .int .i64 18, .int .i64 41] w fun e w' => e = .returned (.int .u64 (tr 14 18 41 x : Nat)) ∧ w' = w := by
  have e1 : bits .xor .u64 ((rr 14 x : Nat) : Int) ((rr 18 x : Nat) : Int) = ((rr 14 x ^^^ rr 18 x : Nat) : Int) := u64_xor_nat _ _ (rr_lt 14 hx) (rr_lt 18 hx)
  have e2 : bits .xor .u64 ((rr 14 x ^^^ rr 18 x : Nat) : Int) ((rr 41 x : Nat) : Int) = ((tr 14 18 41 x : Nat) : Int) := u64_xor_nat _ _ (xor_lt (rr_lt 14 hx) (rr_lt 18 hx)) (rr_lt 41 hx)
  go_enter Tryz.func87, Tryz.ntmps87
  go_wp2_with fail
  refine (ror_14 x hx _).mono ?_
  rintro e w' ⟨rfl, rfl⟩
  go_wp2_with fail
  refine (ror_18 x hx _).mono ?_
  rintro e w' ⟨rfl, rfl⟩
  go_wp2_with fail
  refine (ror_41 x hx _).mono ?_
  rintro e w' ⟨rfl, rfl⟩
  go_wp2_with fail
  go_ret
  exact ⟨rfl, rfl⟩

theorem turned_28 (x : Nat) (hx : U x) (w : World) : Calls Tryz.prog 87 #[.int .u64 x, .int .i64 28, .int .i64 34, .int .i64 39] w fun e w' => e = .returned (.int .u64 (tr 28 34 39 x : Nat)) ∧ w' = w := by
  have e1 : bits .xor .u64 ((rr 28 x : Nat) : Int) ((rr 34 x : Nat) : Int) = ((rr 28 x ^^^ rr 34 x : Nat) : Int) := u64_xor_nat _ _ (rr_lt 28 hx) (rr_lt 34 hx)
  have e2 : bits .xor .u64 ((rr 28 x ^^^ rr 34 x : Nat) : Int) ((rr 39 x : Nat) : Int) = ((tr 28 34 39 x : Nat) : Int) := u64_xor_nat _ _ (xor_lt (rr_lt 28 hx) (rr_lt 34 hx)) (rr_lt 39 hx)
  go_enter Tryz.func87, Tryz.ntmps87
  go_wp2_with fail
  refine (ror_28 x hx _).mono ?_
  rintro e w' ⟨rfl, rfl⟩
  go_wp2_with fail
  refine (ror_34 x hx _).mono ?_
  rintro e w' ⟨rfl, rfl⟩
  go_wp2_with fail
  refine (ror_39 x hx _).mono ?_
  rintro e w' ⟨rfl, rfl⟩
  go_wp2_with fail
  go_ret
  exact ⟨rfl, rfl⟩

theorem choice_s (e f g : Nat) (he : U e) (hf : U f) (hg : U g) (w : World) : Calls Tryz.prog 88 #[.int .u64 e, .int .u64 f, .int .u64 g] w fun x w' => x = .returned (.int .u64 (chc e f g : Nat)) ∧ w' = w := by
  have ne : U (18446744073709551615 - e) := by unfold U; omega
  have e0 : bits .and .u64 (e : Int) (f : Int) = ((e &&& f : Nat) : Int) := u64_and_nat _ _ he hf
  have e1 : IntKind.u64.wrap (-1 - (e : Int)) = ((18446744073709551615 - e : Nat) : Int) := by unfold U at he; rw [IntKind.wrap_u64]; omega
  have e1' : bits .xor .u64 IntKind.u64.max (e : Int) = ((18446744073709551615 - e : Nat) : Int) := by
    have h := BitVec.toNat_not (x := BitVec.ofNat 64 e)
    rw [BitVec.not_def, BitVec.toNat_xor, BitVec.toNat_allOnes, BitVec.toNat_ofNat, Nat.mod_eq_of_lt he] at h
    exact (u64_xor_nat 18446744073709551615 e (by decide) he).trans (congrArg Int.ofNat h)
  have e2 : bits .and .u64 ((18446744073709551615 - e : Nat) : Int) (g : Int) = (((18446744073709551615 - e) &&& g : Nat) : Int) := u64_and_nat _ _ ne hg
  have e3 : bits .xor .u64 ((e &&& f : Nat) : Int) (((18446744073709551615 - e) &&& g : Nat) : Int) = ((chc e f g : Nat) : Int) := u64_xor_nat _ _ (and_lt he) (and_lt ne)
  generalize hE : 18446744073709551615 - e = ne0 at *
  go_enter Tryz.func88, Tryz.ntmps88
  go_wp2
  go_ret
  exact ⟨by rw [← e3]; rfl, rfl⟩
theorem majority_s (a b c : Nat) (ha : U a) (hb : U b) (hc : U c) (w : World) : Calls Tryz.prog 89 #[.int .u64 a, .int .u64 b, .int .u64 c] w fun x w' => x = .returned (.int .u64 (maj a b c : Nat)) ∧ w' = w := by
  have e0 : bits .and .u64 (a : Int) (b : Int) = ((a &&& b : Nat) : Int) := u64_and_nat _ _ ha hb
  have e1 : bits .and .u64 (a : Int) (c : Int) = ((a &&& c : Nat) : Int) := u64_and_nat _ _ ha hc
  have e2 : bits .and .u64 (b : Int) (c : Int) = ((b &&& c : Nat) : Int) := u64_and_nat _ _ hb hc
  have e3 : bits .xor .u64 ((a &&& b : Nat) : Int) ((a &&& c : Nat) : Int) = (((a &&& b) ^^^ (a &&& c) : Nat) : Int) := u64_xor_nat _ _ (and_lt ha) (and_lt ha)
  have e4 : bits .xor .u64 (((a &&& b) ^^^ (a &&& c) : Nat) : Int) ((b &&& c : Nat) : Int) = ((maj a b c : Nat) : Int) := u64_xor_nat _ _ (xor_lt (and_lt ha) (and_lt ha)) (and_lt hb)
  go_enter Tryz.func89, Tryz.ntmps89
  go_wp2
  go_ret
  exact ⟨by rw [← e4]; rfl, rfl⟩

end Go.Proofs.YtjppbngimacgnaaGreatDoor
