/- Joined: H1, H2, H3, H4. -/
import Derived.Test.YtgjclegpnbjlkaaGreatDoorMwA
set_option linter.all false
namespace Go.Proofs.YtgjclegpnbjlkaaGreatDoor
set_option maxHeartbeats 4000000
set_option maxRecDepth 100000
open Go.RowKit
theorem word_any (g o n c : Nat) (b0 b1 b2 b3 b4 b5 b6 b7 : Int) (w : World) (hn : 8 ≤ n)
   (h0 : 0 ≤ b0 ∧ b0 < 256) (h1 : 0 ≤ b1 ∧ b1 < 256) (h2 : 0 ≤ b2 ∧ b2 < 256) (h3 : 0 ≤ b3 ∧ b3 < 256) (h4 : 0 ≤ b4 ∧ b4 < 256) (h5 : 0 ≤ b5 ∧ b5 < 256) (h6 : 0 ≤ b6 ∧ b6 < 256) (h7 : 0 ≤ b7 ∧ b7 < 256)
   (c0 : w.cell? ⟨g, o, none⟩ = some (.int .u8 b0)) (c1 : w.cell? ⟨g, o + 1, none⟩ = some (.int .u8 b1)) (c2 : w.cell? ⟨g, o + 2, none⟩ = some (.int .u8 b2)) (c3 : w.cell? ⟨g, o + 3, none⟩ = some (.int .u8 b3)) (c4 : w.cell? ⟨g, o + 4, none⟩ = some (.int .u8 b4)) (c5 : w.cell? ⟨g, o + 5, none⟩ = some (.int .u8 b5)) (c6 : w.cell? ⟨g, o + 6, none⟩ = some (.int .u8 b6)) (c7 : w.cell? ⟨g, o + 7, none⟩ = some (.int .u8 b7)) :
   Calls Tryz.prog 130 #[.slice (some ⟨g, o, none⟩) n c] w fun e w' => e = .returned (.int .u64 (b7 + b6 * 256 + b5 * 65536 + b4 * 16777216 + b3 * 4294967296 + b2 * 1099511627776 + b1 * 281474976710656 + b0 * 72057594037927936)) ∧ ∃ m, w' = w.drewN m := by
 obtain ⟨l0, u0⟩ := h0; obtain ⟨l1, u1⟩ := h1; obtain ⟨l2, u2⟩ := h2; obtain ⟨l3, u3⟩ := h3; obtain ⟨l4, u4⟩ := h4; obtain ⟨l5, u5⟩ := h5; obtain ⟨l6, u6⟩ := h6; obtain ⟨l7, u7⟩ := h7
 have q0 : (0 : Int) < (n : Int) := by omega
 have q1 : (1 : Int) < (n : Int) := by omega
 have q2 : (2 : Int) < (n : Int) := by omega
 have q3 : (3 : Int) < (n : Int) := by omega
 have q4 : (4 : Int) < (n : Int) := by omega
 have q5 : (5 : Int) < (n : Int) := by omega
 have q6 : (6 : Int) < (n : Int) := by omega
 have q7 : (7 : Int) < (n : Int) := by omega
 have m1 : bits .or .u64 (b7) (b6 * 256) = b7 + b6 * 256 := or_join 8 _ _ (by decide) (by omega) (by simp only [Int.reducePow]; omega) (by omega) (by omega) (by simp only [Int.reducePow]; omega)
 have m2 : bits .or .u64 (b7 + b6 * 256) (b5 * 65536) = b7 + b6 * 256 + b5 * 65536 := or_join 16 _ _ (by decide) (by omega) (by simp only [Int.reducePow]; omega) (by omega) (by omega) (by simp only [Int.reducePow]; omega)
 have m3 : bits .or .u64 (b7 + b6 * 256 + b5 * 65536) (b4 * 16777216) = b7 + b6 * 256 + b5 * 65536 + b4 * 16777216 := or_join 24 _ _ (by decide) (by omega) (by simp only [Int.reducePow]; omega) (by omega) (by omega) (by simp only [Int.reducePow]; omega)
 have m4 : bits .or .u64 (b7 + b6 * 256 + b5 * 65536 + b4 * 16777216) (b3 * 4294967296) = b7 + b6 * 256 + b5 * 65536 + b4 * 16777216 + b3 * 4294967296 := or_join 32 _ _ (by decide) (by omega) (by simp only [Int.reducePow]; omega) (by omega) (by omega) (by simp only [Int.reducePow]; omega)
 have m5 : bits .or .u64 (b7 + b6 * 256 + b5 * 65536 + b4 * 16777216 + b3 * 4294967296) (b2 * 1099511627776) = b7 + b6 * 256 + b5 * 65536 + b4 * 16777216 + b3 * 4294967296 + b2 * 1099511627776 := or_join 40 _ _ (by decide) (by omega) (by simp only [Int.reducePow]; omega) (by omega) (by omega) (by simp only [Int.reducePow]; omega)
 have m6 : bits .or .u64 (b7 + b6 * 256 + b5 * 65536 + b4 * 16777216 + b3 * 4294967296 + b2 * 1099511627776) (b1 * 281474976710656) = b7 + b6 * 256 + b5 * 65536 + b4 * 16777216 + b3 * 4294967296 + b2 * 1099511627776 + b1 * 281474976710656 := or_join 48 _ _ (by decide) (by omega) (by simp only [Int.reducePow]; omega) (by omega) (by omega) (by simp only [Int.reducePow]; omega)
 have m7 : bits .or .u64 (b7 + b6 * 256 + b5 * 65536 + b4 * 16777216 + b3 * 4294967296 + b2 * 1099511627776 + b1 * 281474976710656) (b0 * 72057594037927936) = b7 + b6 * 256 + b5 * 65536 + b4 * 16777216 + b3 * 4294967296 + b2 * 1099511627776 + b1 * 281474976710656 + b0 * 72057594037927936 := or_join 56 _ _ (by decide) (by omega) (by simp only [Int.reducePow]; omega) (by omega) (by omega) (by simp only [Int.reducePow]; omega)
 go_enter Tryz.func130, Tryz.ntmps130
 go_wp2
 go_quiet (fail)
 go_wp2
 go_ret
 exact ⟨rfl, _, rfl⟩
theorem word_s (g o n c : Nat) (b : Nat → Nat) (w : World) (hn : 8 ≤ n) (hb : ∀ i, i < 8 → b i < 256) (hc : ∀ i, i < 8 → w.cell? ⟨g, o + i, none⟩ = some (.int .u8 (b i))) :
   Calls Tryz.prog 130 #[.slice (some ⟨g, o, none⟩) n c] w fun e w' => e = .returned (.int .u64 (wd b : Nat)) ∧ ∃ m, w' = w.drewN m := by
 have B : ∀ i, i < 8 → 0 ≤ (b i : Int) ∧ (b i : Int) < 256 := fun i hi => by have := hb i hi; omega
 have h := word_any g o n c (b 0) (b 1) (b 2) (b 3) (b 4) (b 5) (b 6) (b 7) w hn (B 0 (by omega)) (B 1 (by omega)) (B 2 (by omega)) (B 3 (by omega)) (B 4 (by omega)) (B 5 (by omega)) (B 6 (by omega)) (B 7 (by omega))
   (hc 0 (by omega)) (hc 1 (by omega)) (hc 2 (by omega)) (hc 3 (by omega)) (hc 4 (by omega)) (hc 5 (by omega)) (hc 6 (by omega)) (hc 7 (by omega))
 have e : ((wd b : Nat) : Int) = (b 7 : Int) + b 6 * 256 + b 5 * 65536 + b 4 * 16777216 + b 3 * 4294967296 + b 2 * 1099511627776 + b 1 * 281474976710656 + b 0 * 72057594037927936 := by unfold wd; omega
 rw [e]
 exact h
theorem putWord_any (g o n c : Nat) (v : Int) (hn : 8 ≤ n) (hv : 0 ≤ v) (hv1 : v < 18446744073709551616) (x0 x1 x2 x3 x4 x5 x6 x7 : Value) (w : World)
   (c0 : w.cell? ⟨g, o, none⟩ = some x0) (c1 : w.cell? ⟨g, o + 1, none⟩ = some x1) (c2 : w.cell? ⟨g, o + 2, none⟩ = some x2) (c3 : w.cell? ⟨g, o + 3, none⟩ = some x3) (c4 : w.cell? ⟨g, o + 4, none⟩ = some x4) (c5 : w.cell? ⟨g, o + 5, none⟩ = some x5) (c6 : w.cell? ⟨g, o + 6, none⟩ = some x6) (c7 : w.cell? ⟨g, o + 7, none⟩ = some x7)
   (f0 : w.frozen? ⟨g, o, none⟩ = false) (f1 : w.frozen? ⟨g, o + 1, none⟩ = false) (f2 : w.frozen? ⟨g, o + 2, none⟩ = false) (f3 : w.frozen? ⟨g, o + 3, none⟩ = false) (f4 : w.frozen? ⟨g, o + 4, none⟩ = false) (f5 : w.frozen? ⟨g, o + 5, none⟩ = false) (f6 : w.frozen? ⟨g, o + 6, none⟩ = false) (f7 : w.frozen? ⟨g, o + 7, none⟩ = false) :
   Calls Tryz.prog 117 #[.slice (some ⟨g, o, none⟩) n c, .int .u64 v] w fun e w' => e = .returned (.tuple #[]) ∧ w' = ((((((((w.setCell ⟨g, o, none⟩ (.int .u8 (v / 72057594037927936 % 256))).setCell ⟨g, o + 1, none⟩ (.int .u8 (v / 281474976710656 % 256))).setCell ⟨g, o + 2, none⟩ (.int .u8 (v / 1099511627776 % 256))).setCell ⟨g, o + 3, none⟩ (.int .u8 (v / 4294967296 % 256))).setCell ⟨g, o + 4, none⟩ (.int .u8 (v / 16777216 % 256))).setCell ⟨g, o + 5, none⟩ (.int .u8 (v / 65536 % 256))).setCell ⟨g, o + 6, none⟩ (.int .u8 (v / 256 % 256))).setCell ⟨g, o + 7, none⟩ (.int .u8 (v % 256))) := by
 have q0 : (0 : Int) < (n : Int) := by omega
 have q1 : (1 : Int) < (n : Int) := by omega
 have q2 : (2 : Int) < (n : Int) := by omega
 have q3 : (3 : Int) < (n : Int) := by omega
 have q4 : (4 : Int) < (n : Int) := by omega
 have q5 : (5 : Int) < (n : Int) := by omega
 have q6 : (6 : Int) < (n : Int) := by omega
 have q7 : (7 : Int) < (n : Int) := by omega
 go_enter Tryz.func117, Tryz.ntmps117
 go_wp2
 go_end0
 rw [show v / 72057594037927936 % 256 = v / 72057594037927936 from by omega]
 exact ⟨rfl, rfl⟩
def pw (f : Nat → Nat) (o v : Nat) : Nat → Nat := fun j => if o ≤ j ∧ j < o + 8 then v / 256 ^ (7 - (j - o)) % 256 else f j
theorem putWord_s (g o n c N : Nat) (f : Nat → Nat) (v : Nat) (T : TypeId) (w : World) (hn : 8 ≤ n) (hv : U v) (ho : o + 8 ≤ N) (hb : Blk w g (yC N f) T) :
   Calls Tryz.prog 117 #[.slice (some ⟨g, o, none⟩) n c, .int .u64 v] w fun e w' => e = .returned (.tuple #[]) ∧ Blk w' g (yC N (pw f o v)) T ∧ Chg w w' [g] := by
 have hc : ∀ i, i < 8 → w.cell? ⟨g, o + i, none⟩ = some (.int .u8 (f (o + i))) := fun i hi => by rw [hb.cell, yC_get _ _ _ (by omega)]
 unfold U at hv
 refine (putWord_any g o n c v hn (by omega) (by omega) _ _ _ _ _ _ _ _ w (hc 0 (by omega)) (hc 1 (by omega)) (hc 2 (by omega)) (hc 3 (by omega)) (hc 4 (by omega)) (hc 5 (by omega)) (hc 6 (by omega)) (hc 7 (by omega))
   (hb.frozen _) (hb.frozen _) (hb.frozen _) (hb.frozen _) (hb.frozen _) (hb.frozen _) (hb.frozen _) (hb.frozen _)).mono ?_
 rintro e w' ⟨rfl, rfl⟩
 refine ⟨rfl, ?_, ?_⟩
 · have k := (((((((hb.setCell o (.int .u8 ((v / 72057594037927936 % 256 : Nat)))).setCell (o + 1) (.int .u8 ((v / 281474976710656 % 256 : Nat)))).setCell (o + 2) (.int .u8 ((v / 1099511627776 % 256 : Nat)))).setCell (o + 3) (.int .u8 ((v / 4294967296 % 256 : Nat)))).setCell (o + 4) (.int .u8 ((v / 16777216 % 256 : Nat)))).setCell (o + 5) (.int .u8 ((v / 65536 % 256 : Nat)))).setCell (o + 6) (.int .u8 ((v / 256 % 256 : Nat)))).setCell (o + 7) (.int .u8 ((v % 256 : Nat)))
   simp only [yC_set] at k
   refine k.to (yC_eq fun j hj => ?_)
   unfold up pw
   by_cases h : o ≤ j ∧ j < o + 8
   · rw [if_pos h]
     obtain ⟨i, hi, rfl⟩ : ∃ i, i < 8 ∧ j = o + i := ⟨j - o, by omega, by omega⟩
     have hcs : i = 0 ∨ i = 1 ∨ i = 2 ∨ i = 3 ∨ i = 4 ∨ i = 5 ∨ i = 6 ∨ i = 7 := by omega
     rw [Nat.add_sub_cancel_left]
     rcases hcs with rfl | rfl | rfl | rfl | rfl | rfl | rfl | rfl <;> simp
   · rw [if_neg h]
     simp only [show ¬ j = o + 7 from by omega, show ¬ j = o + 6 from by omega, show ¬ j = o + 5 from by omega, show ¬ j = o + 4 from by omega, show ¬ j = o + 3 from by omega, show ¬ j = o + 2 from by omega, show ¬ j = o + 1 from by omega, show ¬ j = o from by omega, if_false]
 · have hm : g ∈ [g] := by simp
   exact (((((((((Chg.refl w [g]).setIn hm _ _).setIn hm _ _).setIn hm _ _).setIn hm _ _).setIn hm _ _).setIn hm _ _).setIn hm _ _).setIn hm _ _)
theorem ror_1 (x : Nat) (hx : U x) (w : World) : Calls Tryz.prog 131 #[.int .u64 x, .int .i64 1] w fun e w' => e = .returned (.int .u64 (rr 1 x : Nat)) ∧ w' = w := by
 unfold U at hx
 have e0 : IntKind.u64.wrap (-1) = 18446744073709551615 := by decide
 have e1 : bits .and .u64 18446744073709551615 63 = 63 := by decide
 have e2 : bits .or .u64 (IntKind.u64.wrap ((x : Int) * 9223372036854775808)) ((x : Int) / 2) = ((rr 1 x : Nat) : Int) := by
   rw [IntKind.wrap_u64]
   have h1 : ((x : Int) * 9223372036854775808) % 18446744073709551616 = ((x * 9223372036854775808 % 18446744073709551616 : Nat) : Int) := by omega
   have h2 : (x : Int) / 2 = ((x / 2 : Nat) : Int) := by omega
   rw [h1, h2, u64_or_nat _ _ (by omega) (by omega), Nat.or_comm]
   unfold rr
   rw [Nat.shiftLeft_eq, Nat.shiftRight_eq_div_pow]
 go_enter Tryz.func131, Tryz.ntmps131
 go_wp2
 go_ret
 exact ⟨by rw [← e2]; rfl, rfl⟩
theorem ror_8 (x : Nat) (hx : U x) (w : World) : Calls Tryz.prog 131 #[.int .u64 x, .int .i64 8] w fun e w' => e = .returned (.int .u64 (rr 8 x : Nat)) ∧ w' = w := by
 unfold U at hx
 have e0 : IntKind.u64.wrap (-8) = 18446744073709551608 := by decide
 have e1 : bits .and .u64 18446744073709551608 63 = 56 := by decide
 have e2 : bits .or .u64 (IntKind.u64.wrap ((x : Int) * 72057594037927936)) ((x : Int) / 256) = ((rr 8 x : Nat) : Int) := by
   rw [IntKind.wrap_u64]
   have h1 : ((x : Int) * 72057594037927936) % 18446744073709551616 = ((x * 72057594037927936 % 18446744073709551616 : Nat) : Int) := by omega
   have h2 : (x : Int) / 256 = ((x / 256 : Nat) : Int) := by omega
   rw [h1, h2, u64_or_nat _ _ (by omega) (by omega), Nat.or_comm]
   unfold rr
   rw [Nat.shiftLeft_eq, Nat.shiftRight_eq_div_pow]
 go_enter Tryz.func131, Tryz.ntmps131
 go_wp2
 go_ret
 exact ⟨by rw [← e2]; rfl, rfl⟩
theorem ror_14 (x : Nat) (hx : U x) (w : World) : Calls Tryz.prog 131 #[.int .u64 x, .int .i64 14] w fun e w' => e = .returned (.int .u64 (rr 14 x : Nat)) ∧ w' = w := by
 unfold U at hx
 have e0 : IntKind.u64.wrap (-14) = 18446744073709551602 := by decide
 have e1 : bits .and .u64 18446744073709551602 63 = 50 := by decide
 have e2 : bits .or .u64 (IntKind.u64.wrap ((x : Int) * 1125899906842624)) ((x : Int) / 16384) = ((rr 14 x : Nat) : Int) := by
   rw [IntKind.wrap_u64]
   have h1 : ((x : Int) * 1125899906842624) % 18446744073709551616 = ((x * 1125899906842624 % 18446744073709551616 : Nat) : Int) := by omega
   have h2 : (x : Int) / 16384 = ((x / 16384 : Nat) : Int) := by omega
   rw [h1, h2, u64_or_nat _ _ (by omega) (by omega), Nat.or_comm]
   unfold rr
   rw [Nat.shiftLeft_eq, Nat.shiftRight_eq_div_pow]
 go_enter Tryz.func131, Tryz.ntmps131
 go_wp2
 go_ret
 exact ⟨by rw [← e2]; rfl, rfl⟩
theorem ror_18 (x : Nat) (hx : U x) (w : World) : Calls Tryz.prog 131 #[.int .u64 x, .int .i64 18] w fun e w' => e = .returned (.int .u64 (rr 18 x : Nat)) ∧ w' = w := by
 unfold U at hx
 have e0 : IntKind.u64.wrap (-18) = 18446744073709551598 := by decide
 have e1 : bits .and .u64 18446744073709551598 63 = 46 := by decide
 have e2 : bits .or .u64 (IntKind.u64.wrap ((x : Int) * 70368744177664)) ((x : Int) / 262144) = ((rr 18 x : Nat) : Int) := by
   rw [IntKind.wrap_u64]
   have h1 : ((x : Int) * 70368744177664) % 18446744073709551616 = ((x * 70368744177664 % 18446744073709551616 : Nat) : Int) := by omega
   have h2 : (x : Int) / 262144 = ((x / 262144 : Nat) : Int) := by omega
   rw [h1, h2, u64_or_nat _ _ (by omega) (by omega), Nat.or_comm]
   unfold rr
   rw [Nat.shiftLeft_eq, Nat.shiftRight_eq_div_pow]
 go_enter Tryz.func131, Tryz.ntmps131
 go_wp2
 go_ret
 exact ⟨by rw [← e2]; rfl, rfl⟩
theorem ror_19 (x : Nat) (hx : U x) (w : World) : Calls Tryz.prog 131 #[.int .u64 x, .int .i64 19] w fun e w' => e = .returned (.int .u64 (rr 19 x : Nat)) ∧ w' = w := by
 unfold U at hx
 have e0 : IntKind.u64.wrap (-19) = 18446744073709551597 := by decide
 have e1 : bits .and .u64 18446744073709551597 63 = 45 := by decide
 have e2 : bits .or .u64 (IntKind.u64.wrap ((x : Int) * 35184372088832)) ((x : Int) / 524288) = ((rr 19 x : Nat) : Int) := by
   rw [IntKind.wrap_u64]
   have h1 : ((x : Int) * 35184372088832) % 18446744073709551616 = ((x * 35184372088832 % 18446744073709551616 : Nat) : Int) := by omega
   have h2 : (x : Int) / 524288 = ((x / 524288 : Nat) : Int) := by omega
   rw [h1, h2, u64_or_nat _ _ (by omega) (by omega), Nat.or_comm]
   unfold rr
   rw [Nat.shiftLeft_eq, Nat.shiftRight_eq_div_pow]
 go_enter Tryz.func131, Tryz.ntmps131
 go_wp2
 go_ret
 exact ⟨by rw [← e2]; rfl, rfl⟩
theorem ror_28 (x : Nat) (hx : U x) (w : World) : Calls Tryz.prog 131 #[.int .u64 x, .int .i64 28] w fun e w' => e = .returned (.int .u64 (rr 28 x : Nat)) ∧ w' = w := by
 unfold U at hx
 have e0 : IntKind.u64.wrap (-28) = 18446744073709551588 := by decide
 have e1 : bits .and .u64 18446744073709551588 63 = 36 := by decide
 have e2 : bits .or .u64 (IntKind.u64.wrap ((x : Int) * 68719476736)) ((x : Int) / 268435456) = ((rr 28 x : Nat) : Int) := by
   rw [IntKind.wrap_u64]
   have h1 : ((x : Int) * 68719476736) % 18446744073709551616 = ((x * 68719476736 % 18446744073709551616 : Nat) : Int) := by omega
   have h2 : (x : Int) / 268435456 = ((x / 268435456 : Nat) : Int) := by omega
   rw [h1, h2, u64_or_nat _ _ (by omega) (by omega), Nat.or_comm]
   unfold rr
   rw [Nat.shiftLeft_eq, Nat.shiftRight_eq_div_pow]
 go_enter Tryz.func131, Tryz.ntmps131
 go_wp2
 go_ret
 exact ⟨by rw [← e2]; rfl, rfl⟩
theorem ror_34 (x : Nat) (hx : U x) (w : World) : Calls Tryz.prog 131 #[.int .u64 x, .int .i64 34] w fun e w' => e = .returned (.int .u64 (rr 34 x : Nat)) ∧ w' = w := by
 unfold U at hx
 have e0 : IntKind.u64.wrap (-34) = 18446744073709551582 := by decide
 have e1 : bits .and .u64 18446744073709551582 63 = 30 := by decide
 have e2 : bits .or .u64 (IntKind.u64.wrap ((x : Int) * 1073741824)) ((x : Int) / 17179869184) = ((rr 34 x : Nat) : Int) := by
   rw [IntKind.wrap_u64]
   have h1 : ((x : Int) * 1073741824) % 18446744073709551616 = ((x * 1073741824 % 18446744073709551616 : Nat) : Int) := by omega
   have h2 : (x : Int) / 17179869184 = ((x / 17179869184 : Nat) : Int) := by omega
   rw [h1, h2, u64_or_nat _ _ (by omega) (by omega), Nat.or_comm]
   unfold rr
   rw [Nat.shiftLeft_eq, Nat.shiftRight_eq_div_pow]
 go_enter Tryz.func131, Tryz.ntmps131
 go_wp2
 go_ret
 exact ⟨by rw [← e2]; rfl, rfl⟩
theorem ror_39 (x : Nat) (hx : U x) (w : World) : Calls Tryz.prog 131 #[.int .u64 x, .int .i64 39] w fun e w' => e = .returned (.int .u64 (rr 39 x : Nat)) ∧ w' = w := by
 unfold U at hx
 have e0 : IntKind.u64.wrap (-39) = 18446744073709551577 := by decide
 have e1 : bits .and .u64 18446744073709551577 63 = 25 := by decide
 have e2 : bits .or .u64 (IntKind.u64.wrap ((x : Int) * 33554432)) ((x : Int) / 549755813888) = ((rr 39 x : Nat) : Int) := by
   rw [IntKind.wrap_u64]
   have h1 : ((x : Int) * 33554432) % 18446744073709551616 = ((x * 33554432 % 18446744073709551616 : Nat) : Int) := by omega
   have h2 : (x : Int) / 549755813888 = ((x / 549755813888 : Nat) : Int) := by omega
   rw [h1, h2, u64_or_nat _ _ (by omega) (by omega), Nat.or_comm]
   unfold rr
   rw [Nat.shiftLeft_eq, Nat.shiftRight_eq_div_pow]
 go_enter Tryz.func131, Tryz.ntmps131
 go_wp2
 go_ret
 exact ⟨by rw [← e2]; rfl, rfl⟩
theorem ror_41 (x : Nat) (hx : U x) (w : World) : Calls Tryz.prog 131 #[.int .u64 x, .int .i64 41] w fun e w' => e = .returned (.int .u64 (rr 41 x : Nat)) ∧ w' = w := by
 unfold U at hx
 have e0 : IntKind.u64.wrap (-41) = 18446744073709551575 := by decide
 have e1 : bits .and .u64 18446744073709551575 63 = 23 := by decide
 have e2 : bits .or .u64 (IntKind.u64.wrap ((x : Int) * 8388608)) ((x : Int) / 2199023255552) = ((rr 41 x : Nat) : Int) := by
   rw [IntKind.wrap_u64]
   have h1 : ((x : Int) * 8388608) % 18446744073709551616 = ((x * 8388608 % 18446744073709551616 : Nat) : Int) := by omega
   have h2 : (x : Int) / 2199023255552 = ((x / 2199023255552 : Nat) : Int) := by omega
   rw [h1, h2, u64_or_nat _ _ (by omega) (by omega), Nat.or_comm]
   unfold rr
   rw [Nat.shiftLeft_eq, Nat.shiftRight_eq_div_pow]
 go_enter Tryz.func131, Tryz.ntmps131
 go_wp2
 go_ret
 exact ⟨by rw [← e2]; rfl, rfl⟩
theorem ror_61 (x : Nat) (hx : U x) (w : World) : Calls Tryz.prog 131 #[.int .u64 x, .int .i64 61] w fun e w' => e = .returned (.int .u64 (rr 61 x : Nat)) ∧ w' = w := by
 unfold U at hx
 have e0 : IntKind.u64.wrap (-61) = 18446744073709551555 := by decide
 have e1 : bits .and .u64 18446744073709551555 63 = 3 := by decide
 have e2 : bits .or .u64 (IntKind.u64.wrap ((x : Int) * 8)) ((x : Int) / 2305843009213693952) = ((rr 61 x : Nat) : Int) := by
   rw [IntKind.wrap_u64]
   have h1 : ((x : Int) * 8) % 18446744073709551616 = ((x * 8 % 18446744073709551616 : Nat) : Int) := by omega
   have h2 : (x : Int) / 2305843009213693952 = ((x / 2305843009213693952 : Nat) : Int) := by omega
   rw [h1, h2, u64_or_nat _ _ (by omega) (by omega), Nat.or_comm]
   unfold rr
   rw [Nat.shiftLeft_eq, Nat.shiftRight_eq_div_pow]
 go_enter Tryz.func131, Tryz.ntmps131
 go_wp2
 go_ret
 exact ⟨by rw [← e2]; rfl, rfl⟩
theorem turned_14 (x : Nat) (hx : U x) (w : World) : Calls Tryz.prog 123 #[.int .u64 x, .int .i64 14, .int .i64 18, .int .i64 41] w fun e w' => e = .returned (.int .u64 (tr 14 18 41 x : Nat)) ∧ w' = w := by
 have e1 : bits .xor .u64 ((rr 14 x : Nat) : Int) ((rr 18 x : Nat) : Int) = ((rr 14 x ^^^ rr 18 x : Nat) : Int) := u64_xor_nat _ _ (rr_lt 14 hx) (rr_lt 18 hx)
 have e2 : bits .xor .u64 ((rr 14 x ^^^ rr 18 x : Nat) : Int) ((rr 41 x : Nat) : Int) = ((tr 14 18 41 x : Nat) : Int) := u64_xor_nat _ _ (xor_lt (rr_lt 14 hx) (rr_lt 18 hx)) (rr_lt 41 hx)
 go_enter Tryz.func123, Tryz.ntmps123
 go_wp2_with fail
 refine (ror_14 x hx _).mono ?_
 rintro e w' ⟨rfl, rfl⟩
 go_wp2_with fail
 refine (ror_18 x hx _).mono ?_
 rintro e w' ⟨rfl, rfl⟩
 go_wp2_with fail
 refine (ror_41 x hx _).mono ?_
 rintro e w' ⟨rfl, rfl⟩
 go_wp2_with fail
 go_ret
 exact ⟨rfl, rfl⟩
theorem turned_28 (x : Nat) (hx : U x) (w : World) : Calls Tryz.prog 123 #[.int .u64 x, .int .i64 28, .int .i64 34, .int .i64 39] w fun e w' => e = .returned (.int .u64 (tr 28 34 39 x : Nat)) ∧ w' = w := by
 have e1 : bits .xor .u64 ((rr 28 x : Nat) : Int) ((rr 34 x : Nat) : Int) = ((rr 28 x ^^^ rr 34 x : Nat) : Int) := u64_xor_nat _ _ (rr_lt 28 hx) (rr_lt 34 hx)
 have e2 : bits .xor .u64 ((rr 28 x ^^^ rr 34 x : Nat) : Int) ((rr 39 x : Nat) : Int) = ((tr 28 34 39 x : Nat) : Int) := u64_xor_nat _ _ (xor_lt (rr_lt 28 hx) (rr_lt 34 hx)) (rr_lt 39 hx)
 go_enter Tryz.func123, Tryz.ntmps123
 go_wp2_with fail
 refine (ror_28 x hx _).mono ?_
 rintro e w' ⟨rfl, rfl⟩
 go_wp2_with fail
 refine (ror_34 x hx _).mono ?_
 rintro e w' ⟨rfl, rfl⟩
 go_wp2_with fail
 refine (ror_39 x hx _).mono ?_
 rintro e w' ⟨rfl, rfl⟩
 go_wp2_with fail
 go_ret
 exact ⟨rfl, rfl⟩
theorem choice_s (e f g : Nat) (he : U e) (hf : U f) (hg : U g) (w : World) : Calls Tryz.prog 124 #[.int .u64 e, .int .u64 f, .int .u64 g] w fun x w' => x = .returned (.int .u64 (chc e f g : Nat)) ∧ w' = w := by
 have ne : U (18446744073709551615 - e) := by unfold U; omega
 have e0 : bits .and .u64 (e : Int) (f : Int) = ((e &&& f : Nat) : Int) := u64_and_nat _ _ he hf
 have e1 : IntKind.u64.wrap (-1 - (e : Int)) = ((18446744073709551615 - e : Nat) : Int) := by unfold U at he; rw [IntKind.wrap_u64]; omega
 have e1' : bits .xor .u64 IntKind.u64.max (e : Int) = ((18446744073709551615 - e : Nat) : Int) := by
   have h := BitVec.toNat_not (x := BitVec.ofNat 64 e)
   rw [BitVec.not_def, BitVec.toNat_xor, BitVec.toNat_allOnes, BitVec.toNat_ofNat, Nat.mod_eq_of_lt he] at h
   exact (u64_xor_nat 18446744073709551615 e (by decide) he).trans (congrArg Int.ofNat h)
 have e2 : bits .and .u64 ((18446744073709551615 - e : Nat) : Int) (g : Int) = (((18446744073709551615 - e) &&& g : Nat) : Int) := u64_and_nat _ _ ne hg
 have e3 : bits .xor .u64 ((e &&& f : Nat) : Int) (((18446744073709551615 - e) &&& g : Nat) : Int) = ((chc e f g : Nat) : Int) := u64_xor_nat _ _ (and_lt he) (and_lt ne)
 generalize hE : 18446744073709551615 - e = ne0 at *
 go_enter Tryz.func124, Tryz.ntmps124
 go_wp2
 go_ret
 exact ⟨by rw [← e3]; rfl, rfl⟩
theorem majority_s (a b c : Nat) (ha : U a) (hb : U b) (hc : U c) (w : World) : Calls Tryz.prog 125 #[.int .u64 a, .int .u64 b, .int .u64 c] w fun x w' => x = .returned (.int .u64 (maj a b c : Nat)) ∧ w' = w := by
 have e0 : bits .and .u64 (a : Int) (b : Int) = ((a &&& b : Nat) : Int) := u64_and_nat _ _ ha hb
 have e1 : bits .and .u64 (a : Int) (c : Int) = ((a &&& c : Nat) : Int) := u64_and_nat _ _ ha hc
 have e2 : bits .and .u64 (b : Int) (c : Int) = ((b &&& c : Nat) : Int) := u64_and_nat _ _ hb hc
 have e3 : bits .xor .u64 ((a &&& b : Nat) : Int) ((a &&& c : Nat) : Int) = (((a &&& b) ^^^ (a &&& c) : Nat) : Int) := u64_xor_nat _ _ (and_lt ha) (and_lt ha)
 have e4 : bits .xor .u64 (((a &&& b) ^^^ (a &&& c) : Nat) : Int) ((b &&& c : Nat) : Int) = ((maj a b c : Nat) : Int) := u64_xor_nat _ _ (xor_lt (and_lt ha) (and_lt ha)) (and_lt hb)
 go_enter Tryz.func125, Tryz.ntmps125
 go_wp2
 go_ret
 exact ⟨by rw [← e4]; rfl, rfl⟩
end Go.Proofs.YtgjclegpnbjlkaaGreatDoor

set_option linter.all false
namespace Go.Proofs.YtgjclegpnbjlkaaGreatDoor
set_option maxHeartbeats 4000000
set_option maxRecDepth 100000
open Go.RowKit
theorem W80Info : (Tryz.prog.info? 221).map (·.size) = some 80 := by kernel_rfl
def swt (b : Nat → Nat) (i : Nat) : Nat → Nat := fun j => if j < i then sw b j else 0
theorem swt_zero (b : Nat → Nat) : vC 80 (swt b 0) = vC 80 fun _ => 0 := vC_eq fun j _ => if_neg (by omega)
theorem swt_all (b : Nat → Nat) : vC 80 (swt b 80) = vC 80 (sw b) := vC_eq fun j hj => if_pos hj
theorem swt_at (b : Nat → Nat) (i j : Nat) (h : j < i) : swt b i j = sw b j := if_pos h
theorem swt_step (b : Nat → Nat) (i : Nat) : up (swt b i) i (sw b i) = swt b (i + 1) := by
 funext j
 unfold up swt
 by_cases h : j = i
 · subst h; rw [if_pos rfl, if_pos (by omega)]
 · rw [if_neg h]
   by_cases h2 : j < i
   · rw [if_pos h2, if_pos (by omega)]
   · rw [if_neg h2, if_neg (by omega)]
theorem spread_s (z g o c : Nat) (b : Nat → Nat) (w : World) (hc : 128 ≤ c) (hc2 : c ≤ 9223372036854775807) (hb : Bs w g o 128 b) (hz : Blk w z (vC 80 fun _ => 0) 221) (hne : g ≠ z) :
   Calls Tryz.prog 122 #[.pointer (some ⟨z, 0, none⟩), .slice (some ⟨g, o, none⟩) 128 c] w fun e w' => e = .returned (.tuple #[]) ∧ Blk w' z (vC 80 (sw b)) 221 ∧ Chg w w' [z] := by
 rw [← swt_zero b] at hz
 go_enter Tryz.func122, Tryz.ntmps122
 go_wp2_with fail
 go_loopw [10] (fun t wr => ∃ i : Nat, i ≤ 16 ∧ t = .int .i64 (i : Int) ∧ Blk wr z (vC 80 (swt b i)) 221 ∧ Chg w wr [z]) (fun t _ => (16 - intOf t).toNat)
 case atStart => exact ⟨0, by omega, rfl, hz, Chg.refl w _⟩
 case round =>
   obtain ⟨i, hi, rfl, b0, c0⟩ := hrel
   by_cases h8 : i < 16
   · have hI : (i : Int) < 16 := by omega
     have hI2 : (i : Int) < 80 := by omega
     have hs : (8 : Int) * (i : Int) ≤ 128 := by omega
     have hs0 : (0 : Int) ≤ (8 : Int) * (i : Int) := by omega
     have hs1 : (128 : Int) ≤ (c : Int) := by omega
     have hw8 : IntKind.i64.wrap (8 * (i : Int)) = 8 * (i : Int) := by rw [IntKind.wrap_i64]; omega
     have hn8 : (8 * (i : Int)).toNat = 8 * i := by omega
     have B := (hb.chg c0 (by simpa using hne)).sub (8 * i) 8 (by omega)
     have hw : wd (fun j => b (8 * i + j)) = sw b i := (sw_lo b i h8).symm
     have cA := (b0.cell i).trans (vC_get 80 _ i (by omega))
     have fA := b0.frozen i
     go_wp2_with fail
     refine wp_region_held_drew (S := fun w' => Chg wr w' [z]) (by kernel_rfl) ((Chg.refl wr _).drew) (fun hHeld => ?_)
     refine tv ?_ 0 (some 13) rfl (fun w hSw => ?_) hHeld ?_; rotate_left; (· (go_simp; try with_reducible rfl)); try simp only [Act.put, sA]
     refine tv ?_ 1 (some 14) rfl (fun w hSw => ?_) hHeld ?_; rotate_left; (· (go_simp; try with_reducible rfl)); try simp only [Act.put, sA]
     refine tv ?_ 2 (some 15) rfl (fun w hSw => ?_) hHeld ?_; rotate_left; (· (go_simp; try with_reducible rfl)); try simp only [Act.put, sA]
     refine tv ?_ 3 (some 16) rfl (fun w hSw => ?_) hHeld ?_; rotate_left; (· (go_simp; try with_reducible rfl)); try simp only [Act.put, sA]
     refine tv ?_ 4 (some 17) rfl (fun w hSw => ?_) hHeld ?_; rotate_left; (· (go_simp; try with_reducible rfl)); try simp only [Act.put, sA]
     refine tv (.slice (some ⟨g, o + 8 * i, none⟩) (128 - 8 * i) (c - 8 * i)) 5 (some 18) rfl (fun w hSw => ?_) hHeld ?_
     · (go_simp; omega)
     try simp only [Act.put, sA]
     refine tv ?_ 7 (some 20) rfl (fun w hSw => ?_) hHeld ?_; rotate_left; (· (go_simp; try with_reducible rfl)); try simp only [Act.put, sA]
     refine wpAnyH_ready (rs := [6]) (by kernel_rfl) (by simp) ?_
     refine AllReadyH.cons (o := _) rfl (fun K hK => ?_) ?_
     ·
       go_simp
       refine (word_s g (o + 8 * i) (128 - 8 * i) (c - 8 * i) _ _ (by omega) B.bd (B.chg hHeld (by simpa using hne)).cell).mono ?_
       rintro e v1 ⟨rfl, m, rfl⟩
       rw [hw]
       go_wp2_with fail
       refine hK.out _ _ ((Chg.refl wr [z]).drewN (1 + m)) (fun hHeld => ?_)
       clear hK K
       try simp only [Act.put, sA]
       refine tv ?_ 8 (some 21) rfl (fun w hSw => ?_) hHeld ?_; rotate_left; (· (go_simp; try with_reducible rfl)); try simp only [Act.put, sA]
       refine wpAnyH_ready (rs := [9]) (by kernel_rfl) (by simp) ?_
       refine AllReadyH.cons (o := _) rfl (fun K hK => ?_) ?_
       ·
         have bk := b0.drewN (1 + m)
         have ck := bk.cell i
         have fk := bk.frozen i
         rw [vC_get 80 _ i (by omega)] at ck
         rw [if_pos (by rfl)]
         go_simp
         refine hK.out _ _ (hHeld.setIn (by simp) _ _) (fun hHeld => ?_)
         clear hK K
         try simp only [Act.put, sA]
         refine wpAnyH_done (by kernel_rfl) ?_ _
         have c1 := c0.trans1 hHeld
         have b1 := (bk.setCell i (.int .u64 ((sw b i : Nat) : Int))).to (by rw [vC_set, swt_step])
         go_wp2_with fail
         exact ⟨⟨i + 1, by omega, by go_num, b1, c1⟩, by simp [intOf]; omega⟩
       exact AllReadyH.nil
     exact AllReadyH.nil
   · have h9 : i = 16 := by omega
     subst h9
     go_wp2_with fail
     go_loopw [5] (fun t wr => ∃ i : Nat, 16 ≤ i ∧ i ≤ 80 ∧ t = .int .i64 (i : Int) ∧ Blk wr z (vC 80 (swt b i)) 221 ∧ Chg w wr [z]) (fun t _ => (80 - intOf t).toNat)
     case atStart => exact ⟨16, by omega, by omega, rfl, b0, c0⟩
     case round =>
       clear b0 c0 hi
       obtain ⟨i, hj, hi, rfl, b0, c0⟩ := hrel
       by_cases h8 : i < 80
       · have hI : (i : Int) < 80 := by omega
         have L16 := swt_at b i (i - 16) (by omega)
         have L15 := swt_at b i (i - 15) (by omega)
         have L7 := swt_at b i (i - 7) (by omega)
         have L2 := swt_at b i (i - 2) (by omega)
         obtain ⟨x16, hx16⟩ : ∃ x, sw b (i - 16) = x := ⟨_, rfl⟩
         obtain ⟨x15, hx15⟩ : ∃ x, sw b (i - 15) = x := ⟨_, rfl⟩
         obtain ⟨x7, hx7⟩ : ∃ x, sw b (i - 7) = x := ⟨_, rfl⟩
         obtain ⟨x2, hx2⟩ : ∃ x, sw b (i - 2) = x := ⟨_, rfl⟩
         have l16 : U x16 := hx16 ▸ sw_lt hb.bd (i - 16)
         have l15 : U x15 := hx15 ▸ sw_lt hb.bd (i - 15)
         have l7 : U x7 := hx7 ▸ sw_lt hb.bd (i - 7)
         have l2 : U x2 := hx2 ▸ sw_lt hb.bd (i - 2)
         have HV : Hid (sw b i = (x16 + sg0 x15 + x7 + sg1 x2) % 18446744073709551616) := by show sw b i = _; rw [sw_hi b i (by omega), hx16, hx15, hx7, hx2]
         have e16 : (i : Int) - 16 = ((i - 16 : Nat) : Int) := by omega
         have e15 : (i : Int) - 15 = ((i - 15 : Nat) : Int) := by omega
         have e7 : (i : Int) - 7 = ((i - 7 : Nat) : Int) := by omega
         have e2 : (i : Int) - 2 = ((i - 2 : Nat) : Int) := by omega
         have c16 := (b0.cell (i - 16)).trans ((vC_get 80 _ (i - 16) (by omega)).trans (by rw [L16, hx16]))
         have c15 := (b0.cell (i - 15)).trans ((vC_get 80 _ (i - 15) (by omega)).trans (by rw [L15, hx15]))
         have c7 := (b0.cell (i - 7)).trans ((vC_get 80 _ (i - 7) (by omega)).trans (by rw [L7, hx7]))
         have c2 := (b0.cell (i - 2)).trans ((vC_get 80 _ (i - 2) (by omega)).trans (by rw [L2, hx2]))
         have ck := (b0.cell i).trans (vC_get 80 _ i (by omega))
         have fk := b0.frozen i
         clear L16 L15 L7 L2 hx16 hx15 hx7 hx2
         obtain ⟨j16, hj16⟩ : ∃ x, i - 16 = x := ⟨_, rfl⟩
         obtain ⟨j15, hj15⟩ : ∃ x, i - 15 = x := ⟨_, rfl⟩
         obtain ⟨j7, hj7⟩ : ∃ x, i - 7 = x := ⟨_, rfl⟩
         obtain ⟨j2, hj2⟩ : ∃ x, i - 2 = x := ⟨_, rfl⟩
         rw [hj16] at c16 e16; rw [hj15] at c15 e15; rw [hj7] at c7 e7; rw [hj2] at c2 e2
         have b16 : (j16 : Int) < 80 := by omega
         have b15 : (j15 : Int) < 80 := by omega
         have b7 : (j7 : Int) < 80 := by omega
         have b2 : (j2 : Int) < 80 := by omega
         clear hj16 hj15 hj7 hj2
         have r1 := rr_lt 1 l15; have r8 := rr_lt 8 l15; have r19 := rr_lt 19 l2; have r61 := rr_lt 61 l2
         have s7 : (x15 : Int) / (128 : Int) = ((x15 >>> 7 : Nat) : Int) := by rw [Nat.shiftRight_eq_div_pow]; omega
         have s6 : (x2 : Int) / (64 : Int) = ((x2 >>> 6 : Nat) : Int) := by rw [Nat.shiftRight_eq_div_pow]; omega
         have q7 := shr_lt 7 l15; have q6 := shr_lt 6 l2
         have o1 : bits .xor .u64 ((rr 1 x15 : Nat) : Int) ((rr 8 x15 : Nat) : Int) = ((rr 1 x15 ^^^ rr 8 x15 : Nat) : Int) := u64_xor_nat _ _ r1 r8
         have o2 : bits .xor .u64 ((rr 1 x15 ^^^ rr 8 x15 : Nat) : Int) ((x15 : Int) / 128) = ((sg0 x15 : Nat) : Int) := by rw [s7]; exact u64_xor_nat _ _ (xor_lt r1 r8) q7
         have o3 : bits .xor .u64 ((rr 19 x2 : Nat) : Int) ((rr 61 x2 : Nat) : Int) = ((rr 19 x2 ^^^ rr 61 x2 : Nat) : Int) := u64_xor_nat _ _ r19 r61
         have o4 : bits .xor .u64 ((rr 19 x2 ^^^ rr 61 x2 : Nat) : Int) ((x2 : Int) / 64) = ((sg1 x2 : Nat) : Int) := by rw [s6]; exact u64_xor_nat _ _ (xor_lt r19 r61) q6
         have k0 := sg0_lt l15; have k1 := sg1_lt l2
         clear s7 s6 q7 q6 r1 r8 r19 r61
         obtain ⟨g0, hg0⟩ : ∃ x, sg0 x15 = x := ⟨_, rfl⟩
         obtain ⟨g1, hg1⟩ : ∃ x, sg1 x2 = x := ⟨_, rfl⟩
         rw [hg0] at o2 k0 HV; rw [hg1] at o4 k1 HV
         obtain ⟨y1, hy1⟩ : ∃ x, (x16 + g0) % 18446744073709551616 = x := ⟨_, rfl⟩
         obtain ⟨y2, hy2⟩ : ∃ x, (y1 + x7) % 18446744073709551616 = x := ⟨_, rfl⟩
         obtain ⟨y3, hy3⟩ : ∃ x, sw b i = x := ⟨_, rfl⟩
         have a1 : IntKind.u64.wrap ((x16 : Int) + (g0 : Int)) = (y1 : Int) := by rw [IntKind.wrap_u64]; omega
         have a2 : IntKind.u64.wrap ((y1 : Int) + (x7 : Int)) = (y2 : Int) := by rw [IntKind.wrap_u64]; omega
         have a3 : IntKind.u64.wrap ((y2 : Int) + (g1 : Int)) = (y3 : Int) := by have h := HV.out; rw [IntKind.wrap_u64]; omega
         have b1 := (b0.setCell i (.int .u64 (y3 : Int))).to (by rw [vC_set, ← hy3, swt_step])
         have HY : Hid (sw b i = y3) := hy3
         clear hy1 hy2 hy3 hg0 hg1 HV l16 l7 k0 k1
         go_wp2_with fail
         go_region
         go_wp2_with fail
         refine (ror_1 x15 l15 _).mono ?_
         rintro e v1 ⟨rfl, rfl⟩
         go_wp2_with fail
         refine (ror_8 x15 l15 _).mono ?_
         rintro e v1 ⟨rfl, rfl⟩
         go_wp2_with fail
         refine (ror_19 x2 l2 _).mono ?_
         rintro e v1 ⟨rfl, rfl⟩
         go_wp2_with fail
         refine (ror_61 x2 l2 _).mono ?_
         rintro e v1 ⟨rfl, rfl⟩
         go_wp2_with fail
         go_region
         go_wp2_with fail
         refine ⟨⟨_, _, _, _, _, _, _, _, _, _, _, _, _, _, _, _, _, _, _, _, _, _, _, _, _, _, _, _, _, _, _, _, _, _, _, _, _, _, _, _, _, _, _, _, _, _, _, _, _, _, _, _, _, _, _, _, _, _, ⟨i + 1, by omega, by omega, by go_num, b1.drew.drew, ((c0.setIn (by simp) _ _).drew).drew⟩, rfl⟩, by simp [intOf]; omega⟩
       · have h9 : i = 80 := by omega
         subst h9
         rw [swt_all] at b0
         go_wp2_with fail
         go_end0
         exact ⟨rfl, b0, c0⟩
end Go.Proofs.YtgjclegpnbjlkaaGreatDoor

set_option linter.all false
namespace Go.Proofs.YtgjclegpnbjlkaaGreatDoor
set_option maxHeartbeats 8000000
set_option maxRecDepth 100000
open Go.RowKit
theorem wr64 {a b c : Nat} (h : (a + b) % 18446744073709551616 = c) : IntKind.u64.wrap ((a : Int) + (b : Int)) = (c : Int) := by rw [IntKind.wrap_u64]; omega
structure Kc (w : World) (k : Nat → Nat) : Prop where
 lt : 2 < w.heap.size
 bd : ∀ i, i < 80 → U (k i)
 cell : ∀ i, i < 80 → w.cell? ⟨2, i, none⟩ = some (.int .u64 ((k i : Nat) : Int))
theorem Kc.chg {w w' : World} {k : Nat → Nat} {ch : List Nat} (h : Kc w k) (hc : Chg w w' ch) (hb : ¬ 2 ∈ ch) : Kc w' k := by
 have e := hc.block 2 h.lt hb
 exact ⟨Nat.lt_of_lt_of_le h.lt hc.size, h.bd, fun i hi => by rw [← h.cell i hi]; simp [World.cell?, e]⟩
theorem front_cell {w : World} {z : Nat} {s : Nat → Nat} {rest : Array Value} {T : TypeId} (h : Blk w z (vC 8 s ++ rest) T) (i : Nat) (hi : i < 8) : w.cell? ⟨z, i, none⟩ = some (.int .u64 (s i)) := by
 rw [h.cell, Array.getElem?_append_left (by rw [vC_size]; exact hi), vC_get _ _ _ hi]
theorem front_set {w : World} {z : Nat} {s : Nat → Nat} {rest : Array Value} {T : TypeId} (h : Blk w z (vC 8 s ++ rest) T) (i v : Nat) (hi : i < 8) : Blk (w.setCell ⟨z, i, none⟩ (.int .u64 v)) z (vC 8 (up s i v) ++ rest) T :=
 (h.setCell i (.int .u64 v)).to (by rw [Array.setIfInBounds_append_left (by rw [vC_size]; exact hi), vC_set])
theorem zero80 : Tryz.zeroCells221 = vC 80 fun _ => 0 := by kernel_rfl
theorem compress_s (z g o c : Nat) (k s b : Nat → Nat) (rest : Array Value) (T : TypeId) (w : World) (hc : 128 ≤ c) (hc2 : c ≤ 9223372036854775807) (hK : Kc w k) (hs : ∀ i, i < 8 → U (s i))
   (hb : Bs w g o 128 b) (hz : Blk w z (vC 8 s ++ rest) T) (hz0 : ¬ z = 2) :
   Calls Tryz.prog 115 #[.pointer (some ⟨z, 0, none⟩), .slice (some ⟨g, o, none⟩) 128 c] w fun e w' => e = .returned (.tuple #[]) ∧ Blk w' z (vC 8 (cmp k s b) ++ rest) T ∧ Chg w w' [z] := by
 have hbd := hb.bd
 have zlt := hz.lt
 have glt := hb.lt
 have klt := hK.lt
 go_enter Tryz.func115, Tryz.ntmps115
 go_wp2_with fail
 have Z0 : Blk (w.alloc (.cells Tryz.zeroCells221 221)) w.heap.size (vC 80 fun _ => 0) 221 := (Blk.new w _ _).to zero80
 refine (spread_s w.heap.size g o c b _ hc hc2 (hb.chg ((Chg.refl w []).alloc _) (by simp)) Z0 (by omega)).mono ?_
 rintro e v1 ⟨rfl, Z1, k1⟩
 have C1 : Chg w v1 [] := ((Chg.refl w []).alloc _).new k1 (Nat.le_refl _)
 replace hz := hz.chg C1 (by simp)
 replace hK := hK.chg C1 (by simp)
 clear Z0 k1 hb glt
 obtain ⟨y, hy⟩ : ∃ y, w.heap.size = y := ⟨_, rfl⟩
 rw [hy] at Z1 zlt ⊢
 have ylt := Z1.lt
 have HS : Hid (∀ i, U (sw b i)) := fun i => sw_lt hbd i
 have HY : Hid (w.heap.size = y) := hy
 clear hy
 have h0 := front_cell hz 0 (by omega)
 have h1 := front_cell hz 1 (by omega)
 have h2 := front_cell hz 2 (by omega)
 have h3 := front_cell hz 3 (by omega)
 have h4 := front_cell hz 4 (by omega)
 have h5 := front_cell hz 5 (by omega)
 have h6 := front_cell hz 6 (by omega)
 have h7 := front_cell hz 7 (by omega)
 go_wp2_with fail
 go_quiet (fail)
 go_wp2_with fail
 clear h0
 clear h1
 clear h2
 clear h3
 clear h4
 clear h5
 clear h6
 clear h7
 go_loopw [50, 5, 6, 7, 8, 9, 10, 11, 12] (fun t x0 x1 x2 x3 x4 x5 x6 x7 wr => ∃ i : Nat, i ≤ 80 ∧ t = .int .i64 (i : Int) ∧ x0 = .int .u64 ((rds k (sw b) (r8 s) i).a : Nat) ∧ x1 = .int .u64 ((rds k (sw b) (r8 s) i).b : Nat) ∧ x2 = .int .u64 ((rds k (sw b) (r8 s) i).c : Nat) ∧ x3 = .int .u64 ((rds k (sw b) (r8 s) i).d : Nat) ∧ x4 = .int .u64 ((rds k (sw b) (r8 s) i).e : Nat) ∧ x5 = .int .u64 ((rds k (sw b) (r8 s) i).f : Nat) ∧ x6 = .int .u64 ((rds k (sw b) (r8 s) i).g : Nat) ∧ x7 = .int .u64 ((rds k (sw b) (r8 s) i).h : Nat) ∧ Chg v1 wr []) (fun t _ _ _ _ _ _ _ _ _ => (80 - intOf t).toNat)
 case atStart => exact ⟨0, by omega, rfl, rfl, rfl, rfl, rfl, rfl, rfl, rfl, rfl, (Chg.refl v1 _).drewN _⟩
 case round =>
   obtain ⟨i, hi, rfl, rfl, rfl, rfl, rfl, rfl, rfl, rfl, rfl, c0⟩ := hrel
   by_cases h8 : i < 80
   · have hI : (i : Int) < 80 := by omega
     have HN : Hid (rds k (sw b) (r8 s) (i + 1) = rd (rds k (sw b) (r8 s) i) (k i) (sw b i)) := rfl
     have hU := rds_U k (sw b) (r8_U hs) i
     generalize rds k (sw b) (r8 s) i = r at *
     obtain ⟨⟨ua, ub, uc, ud⟩, ue, uf, ug, uh⟩ := hU
     have uk := hK.bd i h8
     have uw := HS.out i
     have ck := (hK.chg c0 (by simp)).cell i h8
     have cw := ((Z1.chg c0 (by simp)).cell i).trans (vC_get 80 _ i h8)
     obtain ⟨a, b', c', d, e', f, g', h⟩ := r
     simp only at ua ub uc ud ue uf ug uh ⊢
     obtain ⟨q1, hq1⟩ : ∃ x, tr 14 18 41 e' = x := ⟨_, rfl⟩
     obtain ⟨q2, hq2⟩ : ∃ x, chc e' f g' = x := ⟨_, rfl⟩
     obtain ⟨q3, hq3⟩ : ∃ x, tr 28 34 39 a = x := ⟨_, rfl⟩
     obtain ⟨q4, hq4⟩ : ∃ x, maj a b' c' = x := ⟨_, rfl⟩
     obtain ⟨kk, hkk⟩ : ∃ x, k i = x := ⟨_, rfl⟩
     obtain ⟨ww, hww⟩ : ∃ x, sw b i = x := ⟨_, rfl⟩
     have T1 := fun W => turned_14 e' ue W
     have T2 := fun W => choice_s e' f g' ue uf ug W
     have T3 := fun W => turned_28 a ua W
     have T4 := fun W => majority_s a b' c' ua ub uc W
     rw [hq1] at T1; rw [hq2] at T2; rw [hq3] at T3; rw [hq4] at T4
     rw [hkk] at ck HN; rw [hww] at cw HN
     obtain ⟨y1, hy1⟩ : ∃ x, (h + q1) % 18446744073709551616 = x := ⟨_, rfl⟩
     obtain ⟨y2, hy2⟩ : ∃ x, (y1 + q2) % 18446744073709551616 = x := ⟨_, rfl⟩
     obtain ⟨y3, hy3⟩ : ∃ x, (y2 + kk) % 18446744073709551616 = x := ⟨_, rfl⟩
     obtain ⟨y4, hy4⟩ : ∃ x, (y3 + ww) % 18446744073709551616 = x := ⟨_, rfl⟩
     obtain ⟨y5, hy5⟩ : ∃ x, (q3 + q4) % 18446744073709551616 = x := ⟨_, rfl⟩
     obtain ⟨y6, hy6⟩ : ∃ x, (y4 + y5) % 18446744073709551616 = x := ⟨_, rfl⟩
     obtain ⟨y7, hy7⟩ : ∃ x, (d + y4) % 18446744073709551616 = x := ⟨_, rfl⟩
     have HR : Hid (rds k (sw b) (r8 s) (i + 1) = ⟨y6, a, b', c', y7, e', f, g'⟩) := by
       show rds k (sw b) (r8 s) (i + 1) = _
       rw [HN.out]
       have e1 : t1 ⟨a, b', c', d, e', f, g', h⟩ kk ww = y4 := by unfold t1; simp only [hq1, hq2]; omega
       have e2 : t2 ⟨a, b', c', d, e', f, g', h⟩ = y5 := by unfold t2; simp only [hq3, hq4, hy5]
       unfold rd
       rw [e1, e2]
       simp only [hy6, hy7]
     have s1 := wr64 hy1; have s2 := wr64 hy2; have s3 := wr64 hy3; have s4 := wr64 hy4; have s5 := wr64 hy5; have s6 := wr64 hy6; have s7 := wr64 hy7
     clear hy1 hy2 hy3 hy4 hy5 hy6 hy7 hq1 hq2 hq3 hq4 hkk hww HN ua ub uc ud ue uf ug uh uk uw
     go_wp2_with fail
     go_quiet (first | (go_at_call 123; exact Calls.quiet_of_same (T1 _)) | (go_at_call 124; exact Calls.quiet_of_same (T2 _)))
     go_wp2_with fail
     refine (T3 _).mono ?_
     rintro e v2 ⟨rfl, rfl⟩
     go_wp2_with fail
     refine (T4 _).mono ?_
     rintro e v2 ⟨rfl, rfl⟩
     go_wp2_with fail
     refine ⟨⟨i + 1, by omega, by go_num, by rw [HR.out], by rw [HR.out], by rw [HR.out], by rw [HR.out], by rw [HR.out], by rw [HR.out], by rw [HR.out], by rw [HR.out], c0.drewN _⟩, by simp [intOf]; omega⟩
   · have h9 : i = 80 := by omega
     subst h9
     have HC : Hid (∀ j, cmp k s b j = (s j + (rds k (sw b) (r8 s) 80).at j) % 18446744073709551616) := fun j => rfl
     generalize rds k (sw b) (r8 s) 80 = r at *
     obtain ⟨r0, r1, r2, r3, r4, r5, r6, r7⟩ := r
     simp only [R8.at] at HC ⊢
     replace hz := hz.chg c0 (by simp)
     replace c0 := (C1.trans1 c0).wide (l := [z])
     clear C1 Z1 hK HS
     obtain ⟨n0, hn0⟩ : ∃ x, (s 0 + r0) % 18446744073709551616 = x := ⟨_, rfl⟩
     have a0 := wr64 hn0
     have HN0 : Hid ((s 0 + r0) % 18446744073709551616 = n0) := hn0
     clear hn0
     obtain ⟨n1, hn1⟩ : ∃ x, (s 1 + r1) % 18446744073709551616 = x := ⟨_, rfl⟩
     have a1 := wr64 hn1
     have HN1 : Hid ((s 1 + r1) % 18446744073709551616 = n1) := hn1
     clear hn1
     obtain ⟨n2, hn2⟩ : ∃ x, (s 2 + r2) % 18446744073709551616 = x := ⟨_, rfl⟩
     have a2 := wr64 hn2
     have HN2 : Hid ((s 2 + r2) % 18446744073709551616 = n2) := hn2
     clear hn2
     obtain ⟨n3, hn3⟩ : ∃ x, (s 3 + r3) % 18446744073709551616 = x := ⟨_, rfl⟩
     have a3 := wr64 hn3
     have HN3 : Hid ((s 3 + r3) % 18446744073709551616 = n3) := hn3
     clear hn3
     obtain ⟨n4, hn4⟩ : ∃ x, (s 4 + r4) % 18446744073709551616 = x := ⟨_, rfl⟩
     have a4 := wr64 hn4
     have HN4 : Hid ((s 4 + r4) % 18446744073709551616 = n4) := hn4
     clear hn4
     obtain ⟨n5, hn5⟩ : ∃ x, (s 5 + r5) % 18446744073709551616 = x := ⟨_, rfl⟩
     have a5 := wr64 hn5
     have HN5 : Hid ((s 5 + r5) % 18446744073709551616 = n5) := hn5
     clear hn5
     obtain ⟨n6, hn6⟩ : ∃ x, (s 6 + r6) % 18446744073709551616 = x := ⟨_, rfl⟩
     have a6 := wr64 hn6
     have HN6 : Hid ((s 6 + r6) % 18446744073709551616 = n6) := hn6
     clear hn6
     obtain ⟨n7, hn7⟩ : ∃ x, (s 7 + r7) % 18446744073709551616 = x := ⟨_, rfl⟩
     have a7 := wr64 hn7
     have HN7 : Hid ((s 7 + r7) % 18446744073709551616 = n7) := hn7
     clear hn7
     have ck : World.cell? wr ⟨z, 0, none⟩ = some (.int .u64 (s 0)) := front_cell hz 0 (by omega)
     have fk := hz.frozen 0
     go_wp2_with fail
     go_region
     go_wp2_with fail
     replace hz := (front_set hz 0 n0 (by omega)).drew
     replace c0 := (c0.setIn (k := z) (by simp) 0 (.int .u64 (n0 : Int))).drew
     clear ck fk a0
     generalize (World.setCell wr ⟨z, 0, none⟩ (.int .u64 (n0 : Int))).drew = ω0 at *
     have ck : World.cell? ω0 ⟨z, 1, none⟩ = some (.int .u64 (s 1)) := front_cell hz 1 (by omega)
     have fk := hz.frozen 1
     go_wp2_with fail
     go_region
     go_wp2_with fail
     replace hz := (front_set hz 1 n1 (by omega)).drew
     replace c0 := (c0.setIn (k := z) (by simp) 1 (.int .u64 (n1 : Int))).drew
     clear ck fk a1
     generalize (World.setCell ω0 ⟨z, 1, none⟩ (.int .u64 (n1 : Int))).drew = ω1 at *
     have ck : World.cell? ω1 ⟨z, 2, none⟩ = some (.int .u64 (s 2)) := front_cell hz 2 (by omega)
     have fk := hz.frozen 2
     go_wp2_with fail
     go_region
     go_wp2_with fail
     replace hz := (front_set hz 2 n2 (by omega)).drew
     replace c0 := (c0.setIn (k := z) (by simp) 2 (.int .u64 (n2 : Int))).drew
     clear ck fk a2
     generalize (World.setCell ω1 ⟨z, 2, none⟩ (.int .u64 (n2 : Int))).drew = ω2 at *
     have ck : World.cell? ω2 ⟨z, 3, none⟩ = some (.int .u64 (s 3)) := front_cell hz 3 (by omega)
     have fk := hz.frozen 3
     go_wp2_with fail
     go_region
     go_wp2_with fail
     replace hz := (front_set hz 3 n3 (by omega)).drew
     replace c0 := (c0.setIn (k := z) (by simp) 3 (.int .u64 (n3 : Int))).drew
     clear ck fk a3
     generalize (World.setCell ω2 ⟨z, 3, none⟩ (.int .u64 (n3 : Int))).drew = ω3 at *
     have ck : World.cell? ω3 ⟨z, 4, none⟩ = some (.int .u64 (s 4)) := front_cell hz 4 (by omega)
     have fk := hz.frozen 4
     go_wp2_with fail
     go_region
     go_wp2_with fail
     replace hz := (front_set hz 4 n4 (by omega)).drew
     replace c0 := (c0.setIn (k := z) (by simp) 4 (.int .u64 (n4 : Int))).drew
     clear ck fk a4
     generalize (World.setCell ω3 ⟨z, 4, none⟩ (.int .u64 (n4 : Int))).drew = ω4 at *
     have ck : World.cell? ω4 ⟨z, 5, none⟩ = some (.int .u64 (s 5)) := front_cell hz 5 (by omega)
     have fk := hz.frozen 5
     go_wp2_with fail
     go_region
     go_wp2_with fail
     replace hz := (front_set hz 5 n5 (by omega)).drew
     replace c0 := (c0.setIn (k := z) (by simp) 5 (.int .u64 (n5 : Int))).drew
     clear ck fk a5
     generalize (World.setCell ω4 ⟨z, 5, none⟩ (.int .u64 (n5 : Int))).drew = ω5 at *
     have ck : World.cell? ω5 ⟨z, 6, none⟩ = some (.int .u64 (s 6)) := front_cell hz 6 (by omega)
     have fk := hz.frozen 6
     go_wp2_with fail
     go_region
     go_wp2_with fail
     replace hz := (front_set hz 6 n6 (by omega)).drew
     replace c0 := (c0.setIn (k := z) (by simp) 6 (.int .u64 (n6 : Int))).drew
     clear ck fk a6
     generalize (World.setCell ω5 ⟨z, 6, none⟩ (.int .u64 (n6 : Int))).drew = ω6 at *
     have ck : World.cell? ω6 ⟨z, 7, none⟩ = some (.int .u64 (s 7)) := front_cell hz 7 (by omega)
     have fk := hz.frozen 7
     go_wp2_with fail
     go_region
     go_wp2_with fail
     replace hz := (front_set hz 7 n7 (by omega)).drew
     replace c0 := (c0.setIn (k := z) (by simp) 7 (.int .u64 (n7 : Int))).drew
     clear ck fk a7
     generalize (World.setCell ω6 ⟨z, 7, none⟩ (.int .u64 (n7 : Int))).drew = ω7 at *
     go_end0
     refine ⟨rfl, hz.to (congrArg (· ++ rest) (vC_eq fun j hj => ?_)), c0⟩
     rw [HC.out]
     have hcs : j = 0 ∨ j = 1 ∨ j = 2 ∨ j = 3 ∨ j = 4 ∨ j = 5 ∨ j = 6 ∨ j = 7 := by omega
     rcases hcs with rfl | rfl | rfl | rfl | rfl | rfl | rfl | rfl
     · exact HN0.out.symm
     · exact HN1.out.symm
     · exact HN2.out.symm
     · exact HN3.out.symm
     · exact HN4.out.symm
     · exact HN5.out.symm
     · exact HN6.out.symm
     · exact HN7.out.symm
end Go.Proofs.YtgjclegpnbjlkaaGreatDoor

set_option linter.all false
namespace Go.Proofs.YtgjclegpnbjlkaaGreatDoor
set_option maxHeartbeats 4000000
set_option maxRecDepth 100000
open Go.RowKit
/-! ### fill -/
def zr (n : Nat) : Nat := (239 - n % 128) % 128
def pdf (n : Nat) : Nat → Nat := pw (up (fun _ => 0) 0 128) (9 + zr n) (8 * n % 18446744073709551616)
theorem fill_s (g n : Nat) (w : World) (hn : U n) (hg : Blk w g (yC 144 fun _ => 0) 240) :
   Calls Tryz.prog 116 #[.pointer (some ⟨g, 0, none⟩), .int .u64 n] w fun e w' => e = .returned (.int .i64 ((17 + zr n : Nat) : Int)) ∧ Blk w' g (yC 144 (pdf n)) 240 ∧ Chg w w' [g] := by
 unfold U at hn
 have hz : zr n < 128 := Nat.mod_lt _ (by decide)
 obtain ⟨q, hq⟩ : ∃ q, 8 * n % 18446744073709551616 = q := ⟨_, rfl⟩
 have uq : U q := by rw [← hq]; exact Nat.mod_lt _ (by decide)
 have e1 : (IntKind.u64.wrap (111 - (n : Int))).tmod 128 = ((zr n : Nat) : Int) := by
   rw [IntKind.wrap_u64, Int.tmod_eq_emod_of_nonneg (by omega)]; unfold zr; omega
 have e2 : IntKind.u64.wrap (8 * (n : Int)) = (q : Int) := by rw [IntKind.wrap_u64]; omega
 have HP : Hid (pdf n = pw (up (fun _ => 0) 0 128) (9 + zr n) q) := by show pdf n = _; unfold pdf; rw [hq]
 generalize zr n = z at *
 clear hq
 have c0 := (hg.cell 0).trans (yC_get 144 _ 0 (by omega))
 have f0 := hg.frozen 0
 obtain ⟨p1, hp1⟩ : ∃ p, p = 1 + z := ⟨_, rfl⟩
 obtain ⟨p9, hp9⟩ : ∃ p, p = 9 + z := ⟨_, rfl⟩
 obtain ⟨p17, hp17⟩ : ∃ p, p = 17 + z := ⟨_, rfl⟩
 have a1 : IntKind.u64.wrap (1 + (z : Int)) = (p1 : Int) := by rw [IntKind.wrap_u64]; omega
 have a2 : IntKind.u64.wrap ((p1 : Int) + 8) = (p9 : Int) := by rw [IntKind.wrap_u64]; omega
 have a3 : IntKind.u64.wrap ((p1 : Int) + 16) = (p17 : Int) := by rw [IntKind.wrap_u64]; omega
 have a4 : IntKind.i64.wrap (p17 : Int) = (p17 : Int) := by rw [IntKind.wrap_i64]; omega
 have a5 : IntKind.i64.wrap (p9 : Int) = (p9 : Int) := by rw [IntKind.wrap_i64]; omega
 have hi : (p9 : Int) ≤ 144 := by omega
 rw [← hp17]
 rw [← hp9] at HP
 have H9 : p9 + 8 ≤ 144 := by omega
 clear hp1 hp9 hp17 hz
 go_enter Tryz.func116, Tryz.ntmps116
 go_wp2_with fail
 have k := (hg.setCell 0 (.int .u8 ((128 : Nat) : Int))).to (yC_set 144 _ 0 128)
 refine (putWord_s g p9 (144 - p9) (144 - p9) 144 _ q 240 _ (by omega) uq (by omega) k).mono ?_
 rintro e v1 ⟨rfl, k1, c1⟩
 go_wp2_with fail
 go_ret
 refine ⟨rfl, by rw [HP.out]; exact k1, ?_⟩
 exact ((Chg.refl w [g]).setIn (by simp) _ _).trans1 c1
end Go.Proofs.YtgjclegpnbjlkaaGreatDoor
