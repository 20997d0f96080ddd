/- word, putWord: eight bytes as a number and back. -/
import Derived.Test.YtoafcaieifjoiaaGreatG
set_option linter.unusedVariables false
set_option linter.unusedSimpArgs false
set_option linter.unnecessarySimpa false
namespace Go.Proofs.YtoafcaieifjoiaaGreat
open Go.RowKit

set_option maxHeartbeats 4000000 in
set_option maxRecDepth 100000 in
theorem word_any (g o c : Nat) (b0 b1 b2 b3 b4 b5 b6 b7 : Int) (w : World)
    (h0 : 0 ≤ b0 ∧ b0 < 256) (h1 : 0 ≤ b1 ∧ b1 < 256) (h2 : 0 ≤ b2 ∧ b2 < 256) (h3 : 0 ≤ b3 ∧ b3 < 256) (h4 : 0 ≤ b4 ∧ b4 < 256) (h5 : 0 ≤ b5 ∧ b5 < 256) (h6 : 0 ≤ b6 ∧ b6 < 256) (h7 : 0 ≤ b7 ∧ b7 < 256)
    (c0 : w.cell? ⟨g, o, none⟩ = some (.int .u8 b0)) (c1 : w.cell? ⟨g, o + 1, none⟩ = some (.int .u8 b1)) (c2 : w.cell? ⟨g, o + 2, none⟩ = some (.int .u8 b2)) (c3 : w.cell? ⟨g, o + 3, none⟩ = some (.int .u8 b3)) (c4 : w.cell? ⟨g, o + 4, none⟩ = some (.int .u8 b4)) (c5 : w.cell? ⟨g, o + 5, none⟩ = some (.int .u8 b5)) (c6 : w.cell? ⟨g, o + 6, none⟩ = some (.int .u8 b6)) (c7 : w.cell? ⟨g, o + 7, none⟩ = some (.int .u8 b7)) :
    Calls Tryz.prog 122 #[.slice (some ⟨g, o, none⟩) 8 c] w fun e w' => e = .returned (.int .u64 (b0 + b1 * 256 + b2 * 65536 + b3 * 16777216 + b4 * 4294967296 + b5 * 1099511627776 + b6 * 281474976710656 + b7 * 72057594037927936)) ∧ ∃ m, w' = w.drewN m := by
  obtain ⟨l0, u0⟩ := h0; obtain ⟨l1, u1⟩ := h1; obtain ⟨l2, u2⟩ := h2; obtain ⟨l3, u3⟩ := h3; obtain ⟨l4, u4⟩ := h4; obtain ⟨l5, u5⟩ := h5; obtain ⟨l6, u6⟩ := h6; obtain ⟨l7, u7⟩ := h7
  have m1 : bits .or .u64 (b0) (b1 * 256) = b0 + b1 * 256 := or_join 8 _ _ (by decide) (by omega) (by simp only [Int.reducePow]; omega) (by omega) (by omega) (by simp only [Int.reducePow]; omega)
  have m2 : bits .or .u64 (b0 + b1 * 256) (b2 * 65536) = b0 + b1 * 256 + b2 * 65536 := or_join 16 _ _ (by decide) (by omega) (by simp only [Int.reducePow]; omega) (by omega) (by omega) (by simp only [Int.reducePow]; omega)
  have m3 : bits .or .u64 (b0 + b1 * 256 + b2 * 65536) (b3 * 16777216) = b0 + b1 * 256 + b2 * 65536 + b3 * 16777216 := or_join 24 _ _ (by decide) (by omega) (by simp only [Int.reducePow]; omega) (by omega) (by omega) (by simp only [Int.reducePow]; omega)
  have m4 : bits .or .u64 (b0 + b1 * 256 + b2 * 65536 + b3 * 16777216) (b4 * 4294967296) = b0 + b1 * 256 + b2 * 65536 + b3 * 16777216 + b4 * 4294967296 := or_join 32 _ _ (by decide) (by omega) (by simp only [Int.reducePow]; omega) (by omega) (by omega) (by simp only [Int.reducePow]; omega)
  have m5 : bits .or .u64 (b0 + b1 * 256 + b2 * 65536 + b3 * 16777216 + b4 * 4294967296) (b5 * 1099511627776) = b0 + b1 * 256 + b2 * 65536 + b3 * 16777216 + b4 * 4294967296 + b5 * 1099511627776 := or_join 40 _ _ (by decide) (by omega) (by simp only [Int.reducePow]; omega) (by omega) (by omega) (by simp only [Int.reducePow]; omega)
  have m6 : bits .or .u64 (b0 + b1 * 256 + b2 * 65536 + b3 * 16777216 + b4 * 4294967296 + b5 * 1099511627776) (b6 * 281474976710656) = b0 + b1 * 256 + b2 * 65536 + b3 * 16777216 + b4 * 4294967296 + b5 * 1099511627776 + b6 * 281474976710656 := or_join 48 _ _ (by decide) (by omega) (by simp only [Int.reducePow]; omega) (by omega) (by omega) (by simp only [Int.reducePow]; omega)
  have m7 : bits .or .u64 (b0 + b1 * 256 + b2 * 65536 + b3 * 16777216 + b4 * 4294967296 + b5 * 1099511627776 + b6 * 281474976710656) (b7 * 72057594037927936) = b0 + b1 * 256 + b2 * 65536 + b3 * 16777216 + b4 * 4294967296 + b5 * 1099511627776 + b6 * 281474976710656 + b7 * 72057594037927936 := or_join 56 _ _ (by decide) (by omega) (by simp only [Int.reducePow]; omega) (by omega) (by omega) (by simp only [Int.reducePow]; omega)
  go_enter Tryz.func122, Tryz.ntmps122
  go_wp2
  go_quiet (fail)
  go_wp2
  go_ret
  exact ⟨rfl, _, rfl⟩

set_option maxHeartbeats 4000000 in
set_option maxRecDepth 100000 in
theorem putWord_any (g o c : Nat) (v : Int) (hv : 0 ≤ v) (hv1 : v < 18446744073709551616) (x0 x1 x2 x3 x4 x5 x6 x7 : Value) (w : World)
    (c0 : w.cell? ⟨g, o, none⟩ = some x0) (c1 : w.cell? ⟨g, o + 1, none⟩ = some x1) (c2 : w.cell? ⟨g, o + 2, none⟩ = some x2) (c3 : w.cell? ⟨g, o + 3, none⟩ = some x3) (c4 : w.cell? ⟨g, o + 4, none⟩ = some x4) (c5 : w.cell? ⟨g, o + 5, none⟩ = some x5) (c6 : w.cell? ⟨g, o + 6, none⟩ = some x6) (c7 : w.cell? ⟨g, o + 7, none⟩ = some x7)
    (f0 : w.frozen? ⟨g, o, none⟩ = false) (f1 : w.frozen? ⟨g, o + 1, none⟩ = false) (f2 : w.frozen? ⟨g, o + 2, none⟩ = false) (f3 : w.frozen? ⟨g, o + 3, none⟩ = false) (f4 : w.frozen? ⟨g, o + 4, none⟩ = false) (f5 : w.frozen? ⟨g, o + 5, none⟩ = false) (f6 : w.frozen? ⟨g, o + 6, none⟩ = false) (f7 : w.frozen? ⟨g, o + 7, none⟩ = false) :
    Calls Tryz.prog 126 #[.slice (some ⟨g, o, none⟩) 8 c, .int .u64 v] w fun e w' => e = .returned (.tuple #[]) ∧ w' = ((((((((w.setCell ⟨g, o, none⟩ (.int .u8 (v % 256))).setCell ⟨g, o + 1, none⟩ (.int .u8 (v / 256 % 256))).setCell ⟨g, o + 2, none⟩ (.int .u8 (v / 65536 % 256))).setCell ⟨g, o + 3, none⟩ (.int .u8 (v / 16777216 % 256))).setCell ⟨g, o + 4, none⟩ (.int .u8 (v / 4294967296 % 256))).setCell ⟨g, o + 5, none⟩ (.int .u8 (v / 1099511627776 % 256))).setCell ⟨g, o + 6, none⟩ (.int .u8 (v / 281474976710656 % 256))).setCell ⟨g, o + 7, none⟩ (.int .u8 (v / 72057594037927936 % 256))) := by
  go_enter Tryz.func126, Tryz.ntmps126
  go_wp2
  go_end0
  rw [show v / 72057594037927936 % 256 = v / 72057594037927936 from by omega]
  exact ⟨rfl, rfl⟩
theorem word_fe0 (g c : Nat) (n : Int) (T : TypeId) (w : World) (hb : Blk w g (feC n) T) :
    Calls Tryz.prog 122 #[.slice (some ⟨g, 0, none⟩) 8 c] w fun e w' => e = .returned (.int .u64 (n / 1 % 18446744073709551616)) ∧ ∃ m, w' = w.drewN m := by
  rw [← w8_0 n]
  exact word_any g 0 c _ _ _ _ _ _ _ _ w (by8_bd n 0) (by8_bd n 1) (by8_bd n 2) (by8_bd n 3) (by8_bd n 4) (by8_bd n 5) (by8_bd n 6) (by8_bd n 7)
    (hb.cell 0) (hb.cell 1) (hb.cell 2) (hb.cell 3) (hb.cell 4) (hb.cell 5) (hb.cell 6) (hb.cell 7)

theorem word_fe1 (g c : Nat) (n : Int) (T : TypeId) (w : World) (hb : Blk w g (feC n) T) :
    Calls Tryz.prog 122 #[.slice (some ⟨g, 8, none⟩) 8 c] w fun e w' => e = .returned (.int .u64 (n / 18446744073709551616 % 18446744073709551616)) ∧ ∃ m, w' = w.drewN m := by
  rw [← w8_1 n]
  exact word_any g 8 c _ _ _ _ _ _ _ _ w (by8_bd n 8) (by8_bd n 9) (by8_bd n 10) (by8_bd n 11) (by8_bd n 12) (by8_bd n 13) (by8_bd n 14) (by8_bd n 15)
    (hb.cell 8) (hb.cell 9) (hb.cell 10) (hb.cell 11) (hb.cell 12) (hb.cell 13) (hb.cell 14) (hb.cell 15)

theorem word_fe2 (g c : Nat) (n : Int) (T : TypeId) (w : World) (hb : Blk w g (feC n) T) :
    Calls Tryz.prog 122 #[.slice (some ⟨g, 16, none⟩) 8 c] w fun e w' => e = .returned (.int .u64 (n / 340282366920938463463374607431768211456 % 18446744073709551616)) ∧ ∃ m, w' = w.drewN m := by
  rw [← w8_2 n]
  exact word_any g 16 c _ _ _ _ _ _ _ _ w (by8_bd n 16) (by8_bd n 17) (by8_bd n 18) (by8_bd n 19) (by8_bd n 20) (by8_bd n 21) (by8_bd n 22) (by8_bd n 23)
    (hb.cell 16) (hb.cell 17) (hb.cell 18) (hb.cell 19) (hb.cell 20) (hb.cell 21) (hb.cell 22) (hb.cell 23)

theorem word_fe3 (g c : Nat) (n : Int) (T : TypeId) (w : World) (hb : Blk w g (feC n) T) :
    Calls Tryz.prog 122 #[.slice (some ⟨g, 24, none⟩) 8 c] w fun e w' => e = .returned (.int .u64 (n / 6277101735386680763835789423207666416102355444464034512896 % 18446744073709551616)) ∧ ∃ m, w' = w.drewN m := by
  rw [← w8_3 n]
  exact word_any g 24 c _ _ _ _ _ _ _ _ w (by8_bd n 24) (by8_bd n 25) (by8_bd n 26) (by8_bd n 27) (by8_bd n 28) (by8_bd n 29) (by8_bd n 30) (by8_bd n 31)
    (hb.cell 24) (hb.cell 25) (hb.cell 26) (hb.cell 27) (hb.cell 28) (hb.cell 29) (hb.cell 30) (hb.cell 31)

theorem putWord_blk (g o k : Nat) (v : Int) (hv : 0 ≤ v) (hv1 : v < 18446744073709551616) (c : Array Value) (T : TypeId) (w : World) (hb : Blk w g c T) (ho : o + 8 ≤ c.size) :
    Calls Tryz.prog 126 #[.slice (some ⟨g, o, none⟩) 8 k, .int .u64 v] w fun e w' => e = .returned (.tuple #[]) ∧ Blk w' g ((((((((c.setIfInBounds (o) (.int .u8 (v % 256))).setIfInBounds (o + 1) (.int .u8 (v / 256 % 256))).setIfInBounds (o + 2) (.int .u8 (v / 65536 % 256))).setIfInBounds (o + 3) (.int .u8 (v / 16777216 % 256))).setIfInBounds (o + 4) (.int .u8 (v / 4294967296 % 256))).setIfInBounds (o + 5) (.int .u8 (v / 1099511627776 % 256))).setIfInBounds (o + 6) (.int .u8 (v / 281474976710656 % 256))).setIfInBounds (o + 7) (.int .u8 (v / 72057594037927936 % 256))) T ∧ w.grownBy w' (some g) := by
  have hc : ∀ i, i < 8 → w.cell? ⟨g, o + i, none⟩ = some (c[o + i]?.getD (.int .u8 0)) := fun i hi => by
    rw [hb.cell, Array.getElem?_eq_getElem (by omega)]; rfl
  refine (putWord_any g o k v hv hv1 _ _ _ _ _ _ _ _ w (hc 0 (by omega)) (hc 1 (by omega)) (hc 2 (by omega)) (hc 3 (by omega)) (hc 4 (by omega)) (hc 5 (by omega)) (hc 6 (by omega)) (hc 7 (by omega))
    (hb.frozen _) (hb.frozen _) (hb.frozen _) (hb.frozen _) (hb.frozen _) (hb.frozen _) (hb.frozen _) (hb.frozen _)).mono ?_
  rintro e w' ⟨he, rfl⟩
  exact ⟨he, by (repeat (first | with_reducible assumption | with_reducible exact Blk.new _ _ _ | with_reducible apply Blk.drew | with_reducible apply Blk.drewN | with_reducible apply Blk.setCell | with_reducible apply Blk.alloc)), by (repeat (first | with_reducible exact gb_refl _ _ | with_reducible assumption | with_reducible apply gb_drew | with_reducible apply gb_drewN | with_reducible apply gb_set | with_reducible apply gb_alloc))⟩

end Go.Proofs.YtoafcaieifjoiaaGreat
