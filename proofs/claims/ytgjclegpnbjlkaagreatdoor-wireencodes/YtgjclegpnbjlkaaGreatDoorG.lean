/- Blocks of memory, 32 bytes of a number, regions that draw their order: small lemmas, of no package. -/
import Derived.Test.YtgjclegpnbjlkaaGreatDoorProg
import Derived.WalkKit
import Derived.WalkSpells
import Derived.WalkLawsBesides
import Derived.RegionTactic
import Derived.BigRegion
import Derived.Deep.QuietTactic
import Derived.Deep.RegionWith
import Derived.BigQuiet
import Derived.Outline
import Derived.Handy
import Derived.Laws.BitsAllLaws
import Derived.Laws.Bits64b
import Derived.Laws.Rows
import Derived.Laws.Tables
import Derived.ChangeKeysEq
import Derived.Deep.RegionHeld3
set_option linter.unusedVariables false
set_option linter.unusedSimpArgs false
set_option linter.unnecessarySimpa false
namespace Go.Proofs.YtgjclegpnbjlkaaGreatDoor
open Go.RowKit

/-- Block b holds these cells (of type T). -/
def Blk (w : World) (b : Nat) (c : Array Value) (T : TypeId) : Prop := w.heap[b]? = some (.cells c T)

theorem Blk.cell {w : World} {b : Nat} {c : Array Value} {T : TypeId} (h : Blk w b c T) (i : Nat) : w.cell? ⟨b, i, none⟩ = c[i]? := by
  unfold Blk at h; simp [World.cell?, h]
theorem Blk.frozen {w : World} {b : Nat} {c : Array Value} {T : TypeId} (h : Blk w b c T) (i : Nat) : w.frozen? ⟨b, i, none⟩ = false := by
  unfold Blk at h; simp [World.frozen?, h]
theorem Blk.lt {w : World} {b : Nat} {c : Array Value} {T : TypeId} (h : Blk w b c T) : b < w.heap.size := by
  unfold Blk at h
  exact (Array.getElem?_eq_some_iff.1 h).1
theorem Blk.drew {w : World} {b : Nat} {c : Array Value} {T : TypeId} (h : Blk w b c T) : Blk w.drew b c T := h
theorem Blk.drewN {w : World} {b : Nat} {c : Array Value} {T : TypeId} (h : Blk w b c T) (n : Nat) : Blk (w.drewN n) b c T := h
theorem Blk.alloc {w : World} {b : Nat} {c : Array Value} {T : TypeId} (h : Blk w b c T) (o : Obj) : Blk (w.alloc o) b c T := by
  have := h.lt
  unfold Blk at h ⊢
  rw [Below.heap_alloc _ _ _ this]; exact h
theorem Blk.new (w : World) (c : Array Value) (T : TypeId) : Blk (w.alloc (.cells c T)) w.heap.size c T := by
  unfold Blk World.alloc; simp
theorem Blk.setCell {w : World} {b : Nat} {c : Array Value} {T : TypeId} (h : Blk w b c T) (i : Nat) (v : Value) : Blk (w.setCell ⟨b, i, none⟩ v) b (c.setIfInBounds i v) T := by
  unfold Blk at h ⊢
  simp only [World.setCell, Array.getElem?_modify, if_true, h]
  rfl
theorem Blk.setOther {w : World} {b d : Nat} {c : Array Value} {T : TypeId} (h : Blk w b c T) (hne : b ≠ d) (i : Nat) (v : Value) : Blk (w.setCell ⟨d, i, none⟩ v) b c T := by
  unfold Blk at h ⊢
  rw [Below.heap_setCell _ _ _ _ (by simpa using hne)]; exact h
theorem Blk.grown {w w' : World} {b : Nat} {c : Array Value} {T : TypeId} {r : Option Nat} (h : Blk w b c T) (hg : w.grownBy w' r) (hr : some b ≠ r) : Blk w' b c T := by
  have := h.lt
  unfold Blk at h ⊢
  rw [hg.block b this hr]; exact h

theorem Blk.setRow {w : World} {b : Nat} {c : Array Value} {T : TypeId} (h : Blk w b c T) (cs : Array Value) : Blk (w.setRow b cs) b cs T := setRow_heap w b c cs T _ h
theorem Blk.setRowOther {w : World} {b d : Nat} {c : Array Value} {T : TypeId} (h : Blk w b c T) (hne : b ≠ d) (cs : Array Value) : Blk (w.setRow d cs) b c T := by
  unfold Blk at h ⊢; rw [setRow_other w d b cs hne]; exact h
theorem Blk.to {w : World} {b : Nat} {c c' : Array Value} {T : TypeId} (h : Blk w b c T) (e : c = c') : Blk w b c' T := e ▸ h

/-! ### How a world has grown, by writes to one block alone (or none) -/
theorem gb_refl (w : World) (r : Option Nat) : w.grownBy w r := ⟨rfl, rfl, rfl, Nat.le_refl _, fun _ _ _ => rfl⟩
theorem gb_trans {a b c : World} {r : Option Nat} (h : a.grownBy b r) (k : b.grownBy c r) : a.grownBy c r :=
  ⟨k.os.trans h.os, k.tape.trans h.tape, k.output.trans h.output, Nat.le_trans h.size k.size, fun i hi hr => (k.block i (Nat.lt_of_lt_of_le hi h.size) hr).trans (h.block i hi hr)⟩
/-- What is written lies in a block that is new. -/
theorem gb_new {a b c : World} {r : Option Nat} {k : Nat} (h : a.grownBy b r) (g : b.grownBy c (some k)) (hk : a.heap.size ≤ k) : a.grownBy c r :=
  ⟨g.os.trans h.os, g.tape.trans h.tape, g.output.trans h.output, Nat.le_trans h.size g.size, fun i hi hr => (g.block i (Nat.lt_of_lt_of_le hi h.size) (by simp; omega)).trans (h.block i hi hr)⟩
theorem gb_none {a b : World} (h : a.grownBy b none) (r : Option Nat) : a.grownBy b r := ⟨h.os, h.tape, h.output, h.size, fun i hi _ => h.block i hi (by simp)⟩
theorem gb_drew {a b : World} {r : Option Nat} (h : a.grownBy b r) : a.grownBy b.drew r := ⟨h.os, h.tape, h.output, h.size, h.block⟩
theorem gb_drewN {a b : World} {r : Option Nat} (h : a.grownBy b r) (n : Nat) : a.grownBy (b.drewN n) r := ⟨h.os, h.tape, h.output, h.size, h.block⟩
theorem gb_alloc {a b : World} {r : Option Nat} (h : a.grownBy b r) (o : Obj) : a.grownBy (b.alloc o) r := gb_trans h (World.grownBy_alloc b o r)
theorem gb_set {a b : World} {k : Nat} (h : a.grownBy b (some k)) (i : Nat) (v : Value) : a.grownBy (b.setCell ⟨k, i, none⟩ v) (some k) :=
  gb_trans h ⟨rfl, rfl, rfl, by simp, fun j _ hr => Below.heap_setCell _ _ _ _ (by simpa using hr)⟩
theorem gb_setNew {a b : World} {r : Option Nat} {k : Nat} (h : a.grownBy b r) (hk : a.heap.size ≤ k) (i : Nat) (v : Value) : a.grownBy (b.setCell ⟨k, i, none⟩ v) r :=
  gb_new h (gb_set (gb_refl b (some k)) i v) hk
theorem gb_setRow {a b : World} {k : Nat} (h : a.grownBy b (some k)) (cs : Array Value) : a.grownBy (b.setRow k cs) (some k) :=
  gb_trans h ⟨rfl, rfl, rfl, by simp, fun j _ hr => setRow_other _ _ _ _ (by simpa using hr)⟩
theorem gb_setRowNew {a b : World} {r : Option Nat} {k : Nat} (h : a.grownBy b r) (hk : a.heap.size ≤ k) (cs : Array Value) : a.grownBy (b.setRow k cs) r :=
  gb_new h (gb_setRow (gb_refl b (some k)) cs) hk
theorem gb_below {a b : World} (h : a.grownBy b none) : Below a.heap.size a b := ⟨h.os, h.tape, h.output, h.size, fun i hi => h.block i hi (by simp)⟩
theorem gb_of_below {a b : World} (h : Below a.heap.size a b) : a.grownBy b none := ⟨h.os, h.tape, h.output, h.size, fun i hi _ => h.block i hi⟩

/-! ### Bits of words -/
theorem and51 (x : Int) (h0 : 0 ≤ x) (h1 : x < 18446744073709551616) : bits .and .u64 x 2251799813685247 = x % 2251799813685248 := by
  obtain ⟨n, rfl⟩ := Int.eq_ofNat_of_zero_le h0
  have h := bits_and_u64_nat n 2251799813685247 (by omega) (by omega)
  have e : n &&& 2251799813685247 = n % 2251799813685248 := Nat.and_two_pow_sub_one_eq_mod n 51
  rw [e] at h
  refine Eq.trans ?_ (h.trans ?_)
  · rfl
  · omega
theorem wr (x : Int) (h0 : 0 ≤ x) (h1 : x < 18446744073709551616) : IntKind.u64.wrap x = x := by rw [IntKind.wrap_u64]; omega
/-- 'lo | hi' where hi is a multiple of 2^i and lo lies below it. -/
theorem or_join (i : Nat) (x y : Int) (hi : i ≤ 64) (hx : 0 ≤ x) (hx1 : x < 2 ^ i) (hy : 0 ≤ y) (hy1 : y < 18446744073709551616) (hm : y % 2 ^ i = 0) : bits .or .u64 x y = x + y := by
  obtain ⟨a, rfl⟩ := Int.eq_ofNat_of_zero_le hx
  obtain ⟨b, rfl⟩ := Int.eq_ofNat_of_zero_le hy
  have ha : a < 2 ^ i := by exact_mod_cast hx1
  have hp : (2 : Nat) ^ i ≤ 2 ^ 64 := Nat.pow_le_pow_right (by omega) hi
  have hb : b % 2 ^ i = 0 := by exact_mod_cast hm
  rw [u64_or_nat a b (by omega) (by omega), Nat.or_comm, nat_join i b a hb ha]
  omega
theorem or_join' (i : Nat) (y x : Int) (hi : i ≤ 64) (hx : 0 ≤ x) (hx1 : x < 2 ^ i) (hy : 0 ≤ y) (hy1 : y < 18446744073709551616) (hm : y % 2 ^ i = 0) : bits .or .u64 y x = y + x := by
  obtain ⟨a, rfl⟩ := Int.eq_ofNat_of_zero_le hx
  obtain ⟨b, rfl⟩ := Int.eq_ofNat_of_zero_le hy
  have ha : a < 2 ^ i := by exact_mod_cast hx1
  have hp : (2 : Nat) ^ i ≤ 2 ^ 64 := Nat.pow_le_pow_right (by omega) hi
  have hb : b % 2 ^ i = 0 := by exact_mod_cast hm
  rw [u64_or_nat b a (by omega) (by omega), nat_join i b a hb ha]
  omega
/-- Byte number i of n. -/
def by8 (n : Int) (i : Nat) : Int := n / 256 ^ i % 256
theorem by8_bd (n : Int) (i : Nat) : 0 ≤ by8 n i ∧ by8 n i < 256 := by unfold by8; omega
/-- The cells of n. -/
def feL (n : Int) : List Value := [.int .u8 (by8 n 0), .int .u8 (by8 n 1), .int .u8 (by8 n 2), .int .u8 (by8 n 3), .int .u8 (by8 n 4), .int .u8 (by8 n 5), .int .u8 (by8 n 6), .int .u8 (by8 n 7), .int .u8 (by8 n 8), .int .u8 (by8 n 9), .int .u8 (by8 n 10), .int .u8 (by8 n 11), .int .u8 (by8 n 12), .int .u8 (by8 n 13), .int .u8 (by8 n 14), .int .u8 (by8 n 15), .int .u8 (by8 n 16), .int .u8 (by8 n 17), .int .u8 (by8 n 18), .int .u8 (by8 n 19), .int .u8 (by8 n 20), .int .u8 (by8 n 21), .int .u8 (by8 n 22), .int .u8 (by8 n 23), .int .u8 (by8 n 24), .int .u8 (by8 n 25), .int .u8 (by8 n 26), .int .u8 (by8 n 27), .int .u8 (by8 n 28), .int .u8 (by8 n 29), .int .u8 (by8 n 30), .int .u8 (by8 n 31)]
abbrev feC (n : Int) : Array Value := (feL n).toArray
/-- n as an api.Fe. -/
abbrev fe (n : Int) : Value := .agg (feC n)
theorem feC_size (n : Int) : (feC n).size = 32 := rfl
theorem feL_len (n : Int) : (feL n).length = 32 := rfl
theorem w8_0 (n : Int) : by8 n 0 + by8 n 1 * 256 + by8 n 2 * 65536 + by8 n 3 * 16777216 + by8 n 4 * 4294967296 + by8 n 5 * 1099511627776 + by8 n 6 * 281474976710656 + by8 n 7 * 72057594037927936 = n / 1 % 18446744073709551616 := by
  simp only [by8, Int.reducePow, Int.pow_zero, Int.ediv_one]
  omega
theorem by8_0 (W0 W1 W2 W3 : Int) (h0 : 0 ≤ W0 ∧ W0 < 18446744073709551616) (h1 : 0 ≤ W1 ∧ W1 < 18446744073709551616) (h2 : 0 ≤ W2 ∧ W2 < 18446744073709551616) (h3 : 0 ≤ W3 ∧ W3 < 18446744073709551616) : by8 (W0 + W1 * 18446744073709551616 + W2 * 340282366920938463463374607431768211456 + W3 * 6277101735386680763835789423207666416102355444464034512896) 0 = W0 % 256 := by
  simp only [by8, Int.reducePow, Int.pow_zero, Int.ediv_one]
  omega
theorem by8_1 (W0 W1 W2 W3 : Int) (h0 : 0 ≤ W0 ∧ W0 < 18446744073709551616) (h1 : 0 ≤ W1 ∧ W1 < 18446744073709551616) (h2 : 0 ≤ W2 ∧ W2 < 18446744073709551616) (h3 : 0 ≤ W3 ∧ W3 < 18446744073709551616) : by8 (W0 + W1 * 18446744073709551616 + W2 * 340282366920938463463374607431768211456 + W3 * 6277101735386680763835789423207666416102355444464034512896) 1 = W0 / 256 % 256 := by
  simp only [by8, Int.reducePow, Int.pow_zero, Int.ediv_one]
  omega
theorem by8_2 (W0 W1 W2 W3 : Int) (h0 : 0 ≤ W0 ∧ W0 < 18446744073709551616) (h1 : 0 ≤ W1 ∧ W1 < 18446744073709551616) (h2 : 0 ≤ W2 ∧ W2 < 18446744073709551616) (h3 : 0 ≤ W3 ∧ W3 < 18446744073709551616) : by8 (W0 + W1 * 18446744073709551616 + W2 * 340282366920938463463374607431768211456 + W3 * 6277101735386680763835789423207666416102355444464034512896) 2 = W0 / 65536 % 256 := by
  simp only [by8, Int.reducePow, Int.pow_zero, Int.ediv_one]
  omega
theorem by8_3 (W0 W1 W2 W3 : Int) (h0 : 0 ≤ W0 ∧ W0 < 18446744073709551616) (h1 : 0 ≤ W1 ∧ W1 < 18446744073709551616) (h2 : 0 ≤ W2 ∧ W2 < 18446744073709551616) (h3 : 0 ≤ W3 ∧ W3 < 18446744073709551616) : by8 (W0 + W1 * 18446744073709551616 + W2 * 340282366920938463463374607431768211456 + W3 * 6277101735386680763835789423207666416102355444464034512896) 3 = W0 / 16777216 % 256 := by
  simp only [by8, Int.reducePow, Int.pow_zero, Int.ediv_one]
  omega
theorem by8_4 (W0 W1 W2 W3 : Int) (h0 : 0 ≤ W0 ∧ W0 < 18446744073709551616) (h1 : 0 ≤ W1 ∧ W1 < 18446744073709551616) (h2 : 0 ≤ W2 ∧ W2 < 18446744073709551616) (h3 : 0 ≤ W3 ∧ W3 < 18446744073709551616) : by8 (W0 + W1 * 18446744073709551616 + W2 * 340282366920938463463374607431768211456 + W3 * 6277101735386680763835789423207666416102355444464034512896) 4 = W0 / 4294967296 % 256 := by
  simp only [by8, Int.reducePow, Int.pow_zero, Int.ediv_one]
  omega
theorem by8_5 (W0 W1 W2 W3 : Int) (h0 : 0 ≤ W0 ∧ W0 < 18446744073709551616) (h1 : 0 ≤ W1 ∧ W1 < 18446744073709551616) (h2 : 0 ≤ W2 ∧ W2 < 18446744073709551616) (h3 : 0 ≤ W3 ∧ W3 < 18446744073709551616) : by8 (W0 + W1 * 18446744073709551616 + W2 * 340282366920938463463374607431768211456 + W3 * 6277101735386680763835789423207666416102355444464034512896) 5 = W0 / 1099511627776 % 256 := by
  simp only [by8, Int.reducePow, Int.pow_zero, Int.ediv_one]
  omega
theorem by8_6 (W0 W1 W2 W3 : Int) (h0 : 0 ≤ W0 ∧ W0 < 18446744073709551616) (h1 : 0 ≤ W1 ∧ W1 < 18446744073709551616) (h2 : 0 ≤ W2 ∧ W2 < 18446744073709551616) (h3 : 0 ≤ W3 ∧ W3 < 18446744073709551616) : by8 (W0 + W1 * 18446744073709551616 + W2 * 340282366920938463463374607431768211456 + W3 * 6277101735386680763835789423207666416102355444464034512896) 6 = W0 / 281474976710656 % 256 := by
  simp only [by8, Int.reducePow, Int.pow_zero, Int.ediv_one]
  omega
theorem by8_7 (W0 W1 W2 W3 : Int) (h0 : 0 ≤ W0 ∧ W0 < 18446744073709551616) (h1 : 0 ≤ W1 ∧ W1 < 18446744073709551616) (h2 : 0 ≤ W2 ∧ W2 < 18446744073709551616) (h3 : 0 ≤ W3 ∧ W3 < 18446744073709551616) : by8 (W0 + W1 * 18446744073709551616 + W2 * 340282366920938463463374607431768211456 + W3 * 6277101735386680763835789423207666416102355444464034512896) 7 = W0 / 72057594037927936 % 256 := by
  simp only [by8, Int.reducePow, Int.pow_zero, Int.ediv_one]
  omega
theorem w8_1 (n : Int) : by8 n 8 + by8 n 9 * 256 + by8 n 10 * 65536 + by8 n 11 * 16777216 + by8 n 12 * 4294967296 + by8 n 13 * 1099511627776 + by8 n 14 * 281474976710656 + by8 n 15 * 72057594037927936 = n / 18446744073709551616 % 18446744073709551616 := by
  simp only [by8, Int.reducePow, Int.pow_zero, Int.ediv_one]
  omega
theorem by8_8 (W0 W1 W2 W3 : Int) (h0 : 0 ≤ W0 ∧ W0 < 18446744073709551616) (h1 : 0 ≤ W1 ∧ W1 < 18446744073709551616) (h2 : 0 ≤ W2 ∧ W2 < 18446744073709551616) (h3 : 0 ≤ W3 ∧ W3 < 18446744073709551616) : by8 (W0 + W1 * 18446744073709551616 + W2 * 340282366920938463463374607431768211456 + W3 * 6277101735386680763835789423207666416102355444464034512896) 8 = W1 % 256 := by
  simp only [by8, Int.reducePow, Int.pow_zero, Int.ediv_one]
  omega
theorem by8_9 (W0 W1 W2 W3 : Int) (h0 : 0 ≤ W0 ∧ W0 < 18446744073709551616) (h1 : 0 ≤ W1 ∧ W1 < 18446744073709551616) (h2 : 0 ≤ W2 ∧ W2 < 18446744073709551616) (h3 : 0 ≤ W3 ∧ W3 < 18446744073709551616) : by8 (W0 + W1 * 18446744073709551616 + W2 * 340282366920938463463374607431768211456 + W3 * 6277101735386680763835789423207666416102355444464034512896) 9 = W1 / 256 % 256 := by
  simp only [by8, Int.reducePow, Int.pow_zero, Int.ediv_one]
  omega
theorem by8_10 (W0 W1 W2 W3 : Int) (h0 : 0 ≤ W0 ∧ W0 < 18446744073709551616) (h1 : 0 ≤ W1 ∧ W1 < 18446744073709551616) (h2 : 0 ≤ W2 ∧ W2 < 18446744073709551616) (h3 : 0 ≤ W3 ∧ W3 < 18446744073709551616) : by8 (W0 + W1 * 18446744073709551616 + W2 * 340282366920938463463374607431768211456 + W3 * 6277101735386680763835789423207666416102355444464034512896) 10 = W1 / 65536 % 256 := by
  simp only [by8, Int.reducePow, Int.pow_zero, Int.ediv_one]
  omega
theorem by8_11 (W0 W1 W2 W3 : Int) (h0 : 0 ≤ W0 ∧ W0 < 18446744073709551616) (h1 : 0 ≤ W1 ∧ W1 < 18446744073709551616) (h2 : 0 ≤ W2 ∧ W2 < 18446744073709551616) (h3 : 0 ≤ W3 ∧ W3 < 18446744073709551616) : by8 (W0 + W1 * 18446744073709551616 + W2 * 340282366920938463463374607431768211456 + W3 * 6277101735386680763835789423207666416102355444464034512896) 11 = W1 / 16777216 % 256 := by
  simp only [by8, Int.reducePow, Int.pow_zero, Int.ediv_one]
  omega
theorem by8_12 (W0 W1 W2 W3 : Int) (h0 : 0 ≤ W0 ∧ W0 < 18446744073709551616) (h1 : 0 ≤ W1 ∧ W1 < 18446744073709551616) (h2 : 0 ≤ W2 ∧ W2 < 18446744073709551616) (h3 : 0 ≤ W3 ∧ W3 < 18446744073709551616) : by8 (W0 + W1 * 18446744073709551616 + W2 * 340282366920938463463374607431768211456 + W3 * 6277101735386680763835789423207666416102355444464034512896) 12 = W1 / 4294967296 % 256 := by
  simp only [by8, Int.reducePow, Int.pow_zero, Int.ediv_one]
  omega
theorem by8_13 (W0 W1 W2 W3 : Int) (h0 : 0 ≤ W0 ∧ W0 < 18446744073709551616) (h1 : 0 ≤ W1 ∧ W1 < 18446744073709551616) (h2 : 0 ≤ W2 ∧ W2 < 18446744073709551616) (h3 : 0 ≤ W3 ∧ W3 < 18446744073709551616) : by8 (W0 + W1 * 18446744073709551616 + W2 * 340282366920938463463374607431768211456 + W3 * 6277101735386680763835789423207666416102355444464034512896) 13 = W1 / 1099511627776 % 256 := by
  simp only [by8, Int.reducePow, Int.pow_zero, Int.ediv_one]
  omega
theorem by8_14 (W0 W1 W2 W3 : Int) (h0 : 0 ≤ W0 ∧ W0 < 18446744073709551616) (h1 : 0 ≤ W1 ∧ W1 < 18446744073709551616) (h2 : 0 ≤ W2 ∧ W2 < 18446744073709551616) (h3 : 0 ≤ W3 ∧ W3 < 18446744073709551616) : by8 (W0 + W1 * 18446744073709551616 + W2 * 340282366920938463463374607431768211456 + W3 * 6277101735386680763835789423207666416102355444464034512896) 14 = W1 / 281474976710656 % 256 := by
  simp only [by8, Int.reducePow, Int.pow_zero, Int.ediv_one]
  omega
theorem by8_15 (W0 W1 W2 W3 : Int) (h0 : 0 ≤ W0 ∧ W0 < 18446744073709551616) (h1 : 0 ≤ W1 ∧ W1 < 18446744073709551616) (h2 : 0 ≤ W2 ∧ W2 < 18446744073709551616) (h3 : 0 ≤ W3 ∧ W3 < 18446744073709551616) : by8 (W0 + W1 * 18446744073709551616 + W2 * 340282366920938463463374607431768211456 + W3 * 6277101735386680763835789423207666416102355444464034512896) 15 = W1 / 72057594037927936 % 256 := by
  simp only [by8, Int.reducePow, Int.pow_zero, Int.ediv_one]
  omega
theorem w8_2 (n : Int) : by8 n 16 + by8 n 17 * 256 + by8 n 18 * 65536 + by8 n 19 * 16777216 + by8 n 20 * 4294967296 + by8 n 21 * 1099511627776 + by8 n 22 * 281474976710656 + by8 n 23 * 72057594037927936 = n / 340282366920938463463374607431768211456 % 18446744073709551616 := by
  simp only [by8, Int.reducePow, Int.pow_zero, Int.ediv_one]
  omega
theorem by8_16 (W0 W1 W2 W3 : Int) (h0 : 0 ≤ W0 ∧ W0 < 18446744073709551616) (h1 : 0 ≤ W1 ∧ W1 < 18446744073709551616) (h2 : 0 ≤ W2 ∧ W2 < 18446744073709551616) (h3 : 0 ≤ W3 ∧ W3 < 18446744073709551616) : by8 (W0 + W1 * 18446744073709551616 + W2 * 340282366920938463463374607431768211456 + W3 * 6277101735386680763835789423207666416102355444464034512896) 16 = W2 % 256 := by
  simp only [by8, Int.reducePow, Int.pow_zero, Int.ediv_one]
  omega
theorem by8_17 (W0 W1 W2 W3 : Int) (h0 : 0 ≤ W0 ∧ W0 < 18446744073709551616) (h1 : 0 ≤ W1 ∧ W1 < 18446744073709551616) (h2 : 0 ≤ W2 ∧ W2 < 18446744073709551616) (h3 : 0 ≤ W3 ∧ W3 < 18446744073709551616) : by8 (W0 + W1 * 18446744073709551616 + W2 * 340282366920938463463374607431768211456 + W3 * 6277101735386680763835789423207666416102355444464034512896) 17 = W2 / 256 % 256 := by
  simp only [by8, Int.reducePow, Int.pow_zero, Int.ediv_one]
  omega
theorem by8_18 (W0 W1 W2 W3 : Int) (h0 : 0 ≤ W0 ∧ W0 < 18446744073709551616) (h1 : 0 ≤ W1 ∧ W1 < 18446744073709551616) (h2 : 0 ≤ W2 ∧ W2 < 18446744073709551616) (h3 : 0 ≤ W3 ∧ W3 < 18446744073709551616) : by8 (W0 + W1 * 18446744073709551616 + W2 * 340282366920938463463374607431768211456 + W3 * 6277101735386680763835789423207666416102355444464034512896) 18 = W2 / 65536 % 256 := by
  simp only [by8, Int.reducePow, Int.pow_zero, Int.ediv_one]
  omega
theorem by8_19 (W0 W1 W2 W3 : Int) (h0 : 0 ≤ W0 ∧ W0 < 18446744073709551616) (h1 : 0 ≤ W1 ∧ W1 < 18446744073709551616) (h2 : 0 ≤ W2 ∧ W2 < 18446744073709551616) (h3 : 0 ≤ W3 ∧ W3 < 18446744073709551616) : by8 (W0 + W1 * 18446744073709551616 + W2 * 340282366920938463463374607431768211456 + W3 * 6277101735386680763835789423207666416102355444464034512896) 19 = W2 / 16777216 % 256 := by
  simp only [by8, Int.reducePow, Int.pow_zero, Int.ediv_one]
  omega
theorem by8_20 (W0 W1 W2 W3 : Int) (h0 : 0 ≤ W0 ∧ W0 < 18446744073709551616) (h1 : 0 ≤ W1 ∧ W1 < 18446744073709551616) (h2 : 0 ≤ W2 ∧ W2 < 18446744073709551616) (h3 : 0 ≤ W3 ∧ W3 < 18446744073709551616) : by8 (W0 + W1 * 18446744073709551616 + W2 * 340282366920938463463374607431768211456 + W3 * 6277101735386680763835789423207666416102355444464034512896) 20 = W2 / 4294967296 % 256 := by
  simp only [by8, Int.reducePow, Int.pow_zero, Int.ediv_one]
  omega
theorem by8_21 (W0 W1 W2 W3 : Int) (h0 : 0 ≤ W0 ∧ W0 < 18446744073709551616) (h1 : 0 ≤ W1 ∧ W1 < 18446744073709551616) (h2 : 0 ≤ W2 ∧ W2 < 18446744073709551616) (h3 : 0 ≤ W3 ∧ W3 < 18446744073709551616) : by8 (W0 + W1 * 18446744073709551616 + W2 * 340282366920938463463374607431768211456 + W3 * 6277101735386680763835789423207666416102355444464034512896) 21 = W2 / 1099511627776 % 256 := by
  simp only [by8, Int.reducePow, Int.pow_zero, Int.ediv_one]
  omega
theorem by8_22 (W0 W1 W2 W3 : Int) (h0 : 0 ≤ W0 ∧ W0 < 18446744073709551616) (h1 : 0 ≤ W1 ∧ W1 < 18446744073709551616) (h2 : 0 ≤ W2 ∧ W2 < 18446744073709551616) (h3 : 0 ≤ W3 ∧ W3 < 18446744073709551616) : by8 (W0 + W1 * 18446744073709551616 + W2 * 340282366920938463463374607431768211456 + W3 * 6277101735386680763835789423207666416102355444464034512896) 22 = W2 / 281474976710656 % 256 := by
  simp only [by8, Int.reducePow, Int.pow_zero, Int.ediv_one]
  omega
theorem by8_23 (W0 W1 W2 W3 : Int) (h0 : 0 ≤ W0 ∧ W0 < 18446744073709551616) (h1 : 0 ≤ W1 ∧ W1 < 18446744073709551616) (h2 : 0 ≤ W2 ∧ W2 < 18446744073709551616) (h3 : 0 ≤ W3 ∧ W3 < 18446744073709551616) : by8 (W0 + W1 * 18446744073709551616 + W2 * 340282366920938463463374607431768211456 + W3 * 6277101735386680763835789423207666416102355444464034512896) 23 = W2 / 72057594037927936 % 256 := by
  simp only [by8, Int.reducePow, Int.pow_zero, Int.ediv_one]
  omega
theorem w8_3 (n : Int) : by8 n 24 + by8 n 25 * 256 + by8 n 26 * 65536 + by8 n 27 * 16777216 + by8 n 28 * 4294967296 + by8 n 29 * 1099511627776 + by8 n 30 * 281474976710656 + by8 n 31 * 72057594037927936 = n / 6277101735386680763835789423207666416102355444464034512896 % 18446744073709551616 := by
  simp only [by8, Int.reducePow, Int.pow_zero, Int.ediv_one]
  omega
theorem by8_24 (W0 W1 W2 W3 : Int) (h0 : 0 ≤ W0 ∧ W0 < 18446744073709551616) (h1 : 0 ≤ W1 ∧ W1 < 18446744073709551616) (h2 : 0 ≤ W2 ∧ W2 < 18446744073709551616) (h3 : 0 ≤ W3 ∧ W3 < 18446744073709551616) : by8 (W0 + W1 * 18446744073709551616 + W2 * 340282366920938463463374607431768211456 + W3 * 6277101735386680763835789423207666416102355444464034512896) 24 = W3 % 256 := by
  simp only [by8, Int.reducePow, Int.pow_zero, Int.ediv_one]
  omega
theorem by8_25 (W0 W1 W2 W3 : Int) (h0 : 0 ≤ W0 ∧ W0 < 18446744073709551616) (h1 : 0 ≤ W1 ∧ W1 < 18446744073709551616) (h2 : 0 ≤ W2 ∧ W2 < 18446744073709551616) (h3 : 0 ≤ W3 ∧ W3 < 18446744073709551616) : by8 (W0 + W1 * 18446744073709551616 + W2 * 340282366920938463463374607431768211456 + W3 * 6277101735386680763835789423207666416102355444464034512896) 25 = W3 / 256 % 256 := by
  simp only [by8, Int.reducePow, Int.pow_zero, Int.ediv_one]
  omega
theorem by8_26 (W0 W1 W2 W3 : Int) (h0 : 0 ≤ W0 ∧ W0 < 18446744073709551616) (h1 : 0 ≤ W1 ∧ W1 < 18446744073709551616) (h2 : 0 ≤ W2 ∧ W2 < 18446744073709551616) (h3 : 0 ≤ W3 ∧ W3 < 18446744073709551616) : by8 (W0 + W1 * 18446744073709551616 + W2 * 340282366920938463463374607431768211456 + W3 * 6277101735386680763835789423207666416102355444464034512896) 26 = W3 / 65536 % 256 := by
  simp only [by8, Int.reducePow, Int.pow_zero, Int.ediv_one]
  omega
theorem by8_27 (W0 W1 W2 W3 : Int) (h0 : 0 ≤ W0 ∧ W0 < 18446744073709551616) (h1 : 0 ≤ W1 ∧ W1 < 18446744073709551616) (h2 : 0 ≤ W2 ∧ W2 < 18446744073709551616) (h3 : 0 ≤ W3 ∧ W3 < 18446744073709551616) : by8 (W0 + W1 * 18446744073709551616 + W2 * 340282366920938463463374607431768211456 + W3 * 6277101735386680763835789423207666416102355444464034512896) 27 = W3 / 16777216 % 256 := by
  simp only [by8, Int.reducePow, Int.pow_zero, Int.ediv_one]
  omega
theorem by8_28 (W0 W1 W2 W3 : Int) (h0 : 0 ≤ W0 ∧ W0 < 18446744073709551616) (h1 : 0 ≤ W1 ∧ W1 < 18446744073709551616) (h2 : 0 ≤ W2 ∧ W2 < 18446744073709551616) (h3 : 0 ≤ W3 ∧ W3 < 18446744073709551616) : by8 (W0 + W1 * 18446744073709551616 + W2 * 340282366920938463463374607431768211456 + W3 * 6277101735386680763835789423207666416102355444464034512896) 28 = W3 / 4294967296 % 256 := by
  simp only [by8, Int.reducePow, Int.pow_zero, Int.ediv_one]
  omega
theorem by8_29 (W0 W1 W2 W3 : Int) (h0 : 0 ≤ W0 ∧ W0 < 18446744073709551616) (h1 : 0 ≤ W1 ∧ W1 < 18446744073709551616) (h2 : 0 ≤ W2 ∧ W2 < 18446744073709551616) (h3 : 0 ≤ W3 ∧ W3 < 18446744073709551616) : by8 (W0 + W1 * 18446744073709551616 + W2 * 340282366920938463463374607431768211456 + W3 * 6277101735386680763835789423207666416102355444464034512896) 29 = W3 / 1099511627776 % 256 := by
  simp only [by8, Int.reducePow, Int.pow_zero, Int.ediv_one]
  omega
theorem by8_30 (W0 W1 W2 W3 : Int) (h0 : 0 ≤ W0 ∧ W0 < 18446744073709551616) (h1 : 0 ≤ W1 ∧ W1 < 18446744073709551616) (h2 : 0 ≤ W2 ∧ W2 < 18446744073709551616) (h3 : 0 ≤ W3 ∧ W3 < 18446744073709551616) : by8 (W0 + W1 * 18446744073709551616 + W2 * 340282366920938463463374607431768211456 + W3 * 6277101735386680763835789423207666416102355444464034512896) 30 = W3 / 281474976710656 % 256 := by
  simp only [by8, Int.reducePow, Int.pow_zero, Int.ediv_one]
  omega
theorem by8_31 (W0 W1 W2 W3 : Int) (h0 : 0 ≤ W0 ∧ W0 < 18446744073709551616) (h1 : 0 ≤ W1 ∧ W1 < 18446744073709551616) (h2 : 0 ≤ W2 ∧ W2 < 18446744073709551616) (h3 : 0 ≤ W3 ∧ W3 < 18446744073709551616) : by8 (W0 + W1 * 18446744073709551616 + W2 * 340282366920938463463374607431768211456 + W3 * 6277101735386680763835789423207666416102355444464034512896) 31 = W3 / 72057594037927936 % 256 := by
  simp only [by8, Int.reducePow, Int.pow_zero, Int.ediv_one]
  omega
theorem feC_of (W0 W1 W2 W3 : Int) (h0 : 0 ≤ W0 ∧ W0 < 18446744073709551616) (h1 : 0 ≤ W1 ∧ W1 < 18446744073709551616) (h2 : 0 ≤ W2 ∧ W2 < 18446744073709551616) (h3 : 0 ≤ W3 ∧ W3 < 18446744073709551616) :
    (#[.int .u8 (W0 % 256), .int .u8 (W0 / 256 % 256), .int .u8 (W0 / 65536 % 256), .int .u8 (W0 / 16777216 % 256), .int .u8 (W0 / 4294967296 % 256), .int .u8 (W0 / 1099511627776 % 256), .int .u8 (W0 / 281474976710656 % 256), .int .u8 (W0 / 72057594037927936 % 256), .int .u8 (W1 % 256), .int .u8 (W1 / 256 % 256), .int .u8 (W1 / 65536 % 256), .int .u8 (W1 / 16777216 % 256), .int .u8 (W1 / 4294967296 % 256), .int .u8 (W1 / 1099511627776 % 256), .int .u8 (W1 / 281474976710656 % 256), .int .u8 (W1 / 72057594037927936 % 256), .int .u8 (W2 % 256), .int .u8 (W2 / 256 % 256), .int .u8 (W2 / 65536 % 256), .int .u8 (W2 / 16777216 % 256), .int .u8 (W2 / 4294967296 % 256), .int .u8 (W2 / 1099511627776 % 256), .int .u8 (W2 / 281474976710656 % 256), .int .u8 (W2 / 72057594037927936 % 256), .int .u8 (W3 % 256), .int .u8 (W3 / 256 % 256), .int .u8 (W3 / 65536 % 256), .int .u8 (W3 / 16777216 % 256), .int .u8 (W3 / 4294967296 % 256), .int .u8 (W3 / 1099511627776 % 256), .int .u8 (W3 / 281474976710656 % 256), .int .u8 (W3 / 72057594037927936 % 256)] : Array Value) = feC (W0 + W1 * 18446744073709551616 + W2 * 340282366920938463463374607431768211456 + W3 * 6277101735386680763835789423207666416102355444464034512896) := by
  unfold feC feL
  rw [by8_0 W0 W1 W2 W3 h0 h1 h2 h3, by8_1 W0 W1 W2 W3 h0 h1 h2 h3, by8_2 W0 W1 W2 W3 h0 h1 h2 h3, by8_3 W0 W1 W2 W3 h0 h1 h2 h3, by8_4 W0 W1 W2 W3 h0 h1 h2 h3, by8_5 W0 W1 W2 W3 h0 h1 h2 h3, by8_6 W0 W1 W2 W3 h0 h1 h2 h3, by8_7 W0 W1 W2 W3 h0 h1 h2 h3, by8_8 W0 W1 W2 W3 h0 h1 h2 h3, by8_9 W0 W1 W2 W3 h0 h1 h2 h3, by8_10 W0 W1 W2 W3 h0 h1 h2 h3, by8_11 W0 W1 W2 W3 h0 h1 h2 h3, by8_12 W0 W1 W2 W3 h0 h1 h2 h3, by8_13 W0 W1 W2 W3 h0 h1 h2 h3, by8_14 W0 W1 W2 W3 h0 h1 h2 h3, by8_15 W0 W1 W2 W3 h0 h1 h2 h3, by8_16 W0 W1 W2 W3 h0 h1 h2 h3, by8_17 W0 W1 W2 W3 h0 h1 h2 h3, by8_18 W0 W1 W2 W3 h0 h1 h2 h3, by8_19 W0 W1 W2 W3 h0 h1 h2 h3, by8_20 W0 W1 W2 W3 h0 h1 h2 h3, by8_21 W0 W1 W2 W3 h0 h1 h2 h3, by8_22 W0 W1 W2 W3 h0 h1 h2 h3, by8_23 W0 W1 W2 W3 h0 h1 h2 h3, by8_24 W0 W1 W2 W3 h0 h1 h2 h3, by8_25 W0 W1 W2 W3 h0 h1 h2 h3, by8_26 W0 W1 W2 W3 h0 h1 h2 h3, by8_27 W0 W1 W2 W3 h0 h1 h2 h3, by8_28 W0 W1 W2 W3 h0 h1 h2 h3, by8_29 W0 W1 W2 W3 h0 h1 h2 h3, by8_30 W0 W1 W2 W3 h0 h1 h2 h3, by8_31 W0 W1 W2 W3 h0 h1 h2 h3]
/-- Of old blocks none but those listed has turned. -/
structure Chg (w w' : World) (l : List Nat) : Prop where
  os : w'.os = w.os
  tape : w'.tape = w.tape
  output : w'.output = w.output
  size : w.heap.size ≤ w'.heap.size
  block : ∀ k, k < w.heap.size → ¬ k ∈ l → w'.heap[k]? = w.heap[k]?

theorem Chg.of {w w' : World} {z : Nat} (h : w.grownBy w' (some z)) : Chg w w' [z] := ⟨h.os, h.tape, h.output, h.size, fun k hk hl => h.block k hk (by simpa using hl)⟩
theorem Chg.ofNone {w w' : World} (h : w.grownBy w' none) (l : List Nat) : Chg w w' l := ⟨h.os, h.tape, h.output, h.size, fun k hk _ => h.block k hk (by simp)⟩
theorem Chg.refl (w : World) (l : List Nat) : Chg w w l := ⟨rfl, rfl, rfl, Nat.le_refl _, fun _ _ _ => rfl⟩
theorem Chg.trans {a b c : World} {l m : List Nat} (h : Chg a b l) (k : Chg b c m) (hm : ∀ i, i ∈ m → i ∈ l ∨ a.heap.size ≤ i) : Chg a c l :=
  ⟨k.os.trans h.os, k.tape.trans h.tape, k.output.trans h.output, Nat.le_trans h.size k.size, fun i hi hl => by
    rw [k.block i (Nat.lt_of_lt_of_le hi h.size) (fun hx => by rcases hm i hx with h1 | h1; exact hl h1; omega)]
    exact h.block i hi hl⟩
theorem Chg.trans1 {a b c : World} {l : List Nat} (h : Chg a b l) (k : Chg b c l) : Chg a c l := h.trans k (fun _ hi => Or.inl hi)
theorem Chg.new {a b c : World} {l : List Nat} {z : Nat} (h : Chg a b l) (k : Chg b c [z]) (hz : a.heap.size ≤ z) : Chg a c l := h.trans k (fun i hi => by simp at hi; subst hi; exact Or.inr hz)
theorem Chg.alloc {a b : World} {l : List Nat} (h : Chg a b l) (o : Obj) : Chg a (b.alloc o) l := h.trans (Chg.ofNone (World.grownBy_alloc b o none) []) (fun i hi => by simp at hi)
theorem Chg.drew {a b : World} {l : List Nat} (h : Chg a b l) : Chg a b.drew l := ⟨h.os, h.tape, h.output, h.size, h.block⟩
theorem Chg.drewN {a b : World} {l : List Nat} (h : Chg a b l) (n : Nat) : Chg a (b.drewN n) l := ⟨h.os, h.tape, h.output, h.size, h.block⟩
theorem Chg.below {a b : World} (h : Chg a b []) : Below a.heap.size a b := ⟨h.os, h.tape, h.output, h.size, fun k hk => h.block k hk (by simp)⟩
theorem Chg.ofBelow {a b : World} (h : Below a.heap.size a b) (l : List Nat) : Chg a b l := ⟨h.os, h.tape, h.output, h.size, fun k hk _ => h.block k hk⟩
theorem Chg.setRowNew {a b : World} {l : List Nat} {k : Nat} (h : Chg a b l) (hk : a.heap.size ≤ k) (cs : Array Value) : Chg a (b.setRow k cs) l :=
  h.new (Chg.of (gb_setRow (gb_refl b _) cs)) hk
theorem Chg.setIn {a b : World} {l : List Nat} {k : Nat} (h : Chg a b l) (hk : k ∈ l) (i : Nat) (v : Value) : Chg a (b.setCell ⟨k, i, none⟩ v) l :=
  h.trans (Chg.of (gb_set (gb_refl b _) i v)) (fun j hj => by simp at hj; subst hj; exact Or.inl hk)
theorem Chg.setNew {a b : World} {l : List Nat} {k : Nat} (h : Chg a b l) (hk : a.heap.size ≤ k) (i : Nat) (v : Value) : Chg a (b.setCell ⟨k, i, none⟩ v) l :=
  h.new (Chg.of (gb_set (gb_refl b _) i v)) hk
/-- None has turned: so none but those listed. -/
theorem Chg.wide {a b : World} {l : List Nat} (h : Chg a b []) : Chg a b l := ⟨h.os, h.tape, h.output, h.size, fun k hk _ => h.block k hk (by simp)⟩
theorem Chg.incl {a b : World} {l m : List Nat} (h : Chg a b l) (hi : ∀ i, i ∈ l → i ∈ m) : Chg a b m := ⟨h.os, h.tape, h.output, h.size, fun k hk hl => h.block k hk (fun hx => hl (hi k hx))⟩
theorem Blk.chg {w w' : World} {b : Nat} {c : Array Value} {T : TypeId} {l : List Nat} (h : Blk w b c T) (hc : Chg w w' l) (hb : ¬ b ∈ l) : Blk w' b c T := by
  have := h.lt
  unfold Blk at h ⊢
  rw [hc.block b this hb]; exact h

/-- 32 bytes 0. -/
def z32 : Array Value := #[.int .u8 0, .int .u8 0, .int .u8 0, .int .u8 0, .int .u8 0, .int .u8 0, .int .u8 0, .int .u8 0, .int .u8 0, .int .u8 0, .int .u8 0, .int .u8 0, .int .u8 0, .int .u8 0, .int .u8 0, .int .u8 0, .int .u8 0, .int .u8 0, .int .u8 0, .int .u8 0, .int .u8 0, .int .u8 0, .int .u8 0, .int .u8 0, .int .u8 0, .int .u8 0, .int .u8 0, .int .u8 0, .int .u8 0, .int .u8 0, .int .u8 0, .int .u8 0]
theorem feC_one (n : Int) : (feC n).all (·.oneCell') = true := by simp [feL, Value.oneCell']
/-- A number of 256 bits. -/
def R256 (n : Int) : Prop := 0 ≤ n ∧ n < 115792089237316195423570985008687907853269984665640564039457584007913129639936
theorem eqItems_ints {P : Program} (w : World) (d : Nat) {e : TypeId} {k : IntKind} (hu : P.underlying e = some (.int k)) (xs ys : Array Value) (f g : Nat → Int) :
    ∀ is : List Nat, (∀ i, i ∈ is → xs[i]? = some (.int k (f i)) ∧ ys[i]? = some (.int k (g i))) → (Op.eqItems (d + 1) e 1 xs ys is).run P w = .ok (is.all fun i => f i == g i) w
  | [], _ => by simp [Op.eqItems]
  | i :: is, h => by
    have hp : P.plainKey e = true := by unfold Program.plainKey; rw [hu]
    obtain ⟨h1, h2⟩ := h i (by simp)
    have e1 := run_part_plain (P := P) w hp (xs := xs) (off := i * 1) (by rw [Nat.mul_one]; exact h1)
    have e2 := run_part_plain (P := P) w hp (xs := ys) (off := i * 1) (by rw [Nat.mul_one]; exact h2)
    have e3 := run_equalIn_int (P := P) w d e k k (f i) (g i) hu
    have ih := eqItems_ints w d hu xs ys f g is (fun j hj => h j (by simp [hj]))
    simp only [Op.eqItems, Sem.run_bind, e1, e2, e3, Result.andThen_ok]
    cases hb : (f i == g i)
    · simp [hb]
    · simp [ih, hb]

theorem feC_get (n : Int) : ∀ i, i < 32 → (feC n)[i]? = some (.int .u8 (by8 n i))
  | 0, _ => rfl
  | 1, _ => rfl
  | 2, _ => rfl
  | 3, _ => rfl
  | 4, _ => rfl
  | 5, _ => rfl
  | 6, _ => rfl
  | 7, _ => rfl
  | 8, _ => rfl
  | 9, _ => rfl
  | 10, _ => rfl
  | 11, _ => rfl
  | 12, _ => rfl
  | 13, _ => rfl
  | 14, _ => rfl
  | 15, _ => rfl
  | 16, _ => rfl
  | 17, _ => rfl
  | 18, _ => rfl
  | 19, _ => rfl
  | 20, _ => rfl
  | 21, _ => rfl
  | 22, _ => rfl
  | 23, _ => rfl
  | 24, _ => rfl
  | 25, _ => rfl
  | 26, _ => rfl
  | 27, _ => rfl
  | 28, _ => rfl
  | 29, _ => rfl
  | 30, _ => rfl
  | 31, _ => rfl
  | i + 32, h => by omega

/-- Are all bytes the same? -/
def eqf (n m : Int) : Bool := (List.range 32).all fun i => by8 n i == by8 m i
@[go_sem] theorem eqf_self (n : Int) : eqf n n = true := by simp [eqf]
theorem eqf_eq {n m : Int} (hn : R256 n) (hm : R256 m) : eqf n m = decide (n = m) := by
  cases h : eqf n m
  · symm
    rw [decide_eq_false_iff_not]
    intro e
    rw [e, eqf_self] at h
    cases h
  · symm
    rw [decide_eq_true_eq]
    unfold eqf at h
    rw [List.all_eq_true] at h
    have hb : ∀ i, i < 32 → by8 n i = by8 m i := fun i hi => by simpa using h i (by simpa using hi)
    have q0 := w8_0 n; have q1 := w8_1 n; have q2 := w8_2 n; have q3 := w8_3 n
    rw [hb 0 (by decide), hb 1 (by decide), hb 2 (by decide), hb 3 (by decide), hb 4 (by decide), hb 5 (by decide), hb 6 (by decide), hb 7 (by decide), w8_0 m] at q0
    rw [hb 8 (by decide), hb 9 (by decide), hb 10 (by decide), hb 11 (by decide), hb 12 (by decide), hb 13 (by decide), hb 14 (by decide), hb 15 (by decide), w8_1 m] at q1
    rw [hb 16 (by decide), hb 17 (by decide), hb 18 (by decide), hb 19 (by decide), hb 20 (by decide), hb 21 (by decide), hb 22 (by decide), hb 23 (by decide), w8_2 m] at q2
    rw [hb 24 (by decide), hb 25 (by decide), hb 26 (by decide), hb 27 (by decide), hb 28 (by decide), hb 29 (by decide), hb 30 (by decide), hb 31 (by decide), w8_3 m] at q3
    obtain ⟨h1, h2⟩ := hn; obtain ⟨h3, h4⟩ := hm
    clear h hb
    omega

theorem z32_fe : z32 = feC 0 := by simp [z32, feL, by8]
theorem Blk.range {w : World} {b : Nat} {n : Int} {T : TypeId} (h : Blk w b (feC n) T) : w.rangeAt b 0 (feL n) := fun j v hv => by
  rw [h.cell, Nat.zero_add]; simpa using hv

/-- In a region that draws its order: an operation that yields v wherever S holds is taken first (d: the slot that it writes). -/
theorem take_val {P : Program} {ops : Array Oper} {Q : Exit → Act → World → Prop} {md : Region.Mode} {S : World → Prop} {oi : Oper} {fuel : Nat} {listed : Array Bool} {a : Act} {w : World} {v : Value} (i : Nat) (d : Option Tmp) (hi : ops[i]? = some oi)
    (hs : Region.noSelect ops = true) (hf : Region.free md ops listed i = true) (hr : (Region.ready md ops listed).contains i = true)
    (hQ : ∀ c a w, Q (.panic c) (a.put d v) w → Q (.panic c) a w) (hd : oi.dst = d) (hw : Region.wanted oi (yielded ops a.tmps) = true)
    (hy : ∀ w, S w → (execOp a.eval oi).run P w = .ok (.value v) w) (hS : S w) (h : wpAnyH P md ops Q S fuel (listed.setIfInBounds i true) (a.put d v) w) : wpAnyH P md ops Q S (fuel + 1) listed a w := by
  subst hd
  exact wpAnyH_take hi hs hf hr hQ (Or.inl ⟨hw, hy⟩) hS h
/-- .. one whose guard says no. -/
theorem take_no {P : Program} {ops : Array Oper} {Q : Exit → Act → World → Prop} {md : Region.Mode} {S : World → Prop} {oi : Oper} {fuel : Nat} {listed : Array Bool} {a : Act} {w : World} (i : Nat) (d : Option Tmp) (hi : ops[i]? = some oi)
    (hs : Region.noSelect ops = true) (hf : Region.free md ops listed i = true) (hr : (Region.ready md ops listed).contains i = true)
    (hQ : ∀ c a w, Q (.panic c) (a.put d undef) w → Q (.panic c) a w) (hd : oi.dst = d) (hw : Region.wanted oi (yielded ops a.tmps) = false)
    (hS : S w) (h : wpAnyH P md ops Q S fuel (listed.setIfInBounds i true) (a.put d undef) w) : wpAnyH P md ops Q S (fuel + 1) listed a w := by
  subst hd
  exact wpAnyH_take hi hs hf hr hQ (Or.inr ⟨hw, rfl⟩) hS h
/-- .. a whole array is loaded, its block being known wherever S holds. -/
theorem take_load {P : Program} {ops : Array Oper} {Q : Exit → Act → World → Prop} {md : Region.Mode} {S : World → Prop} {oi : Oper} {fuel : Nat} {listed : Array Bool} {a : Act} {w : World} (i : Nat) (dt : Option Tmp) (cs : Array Value) (hi : ops[i]? = some oi)
    (hs : Region.noSelect ops = true) (hf : Region.free md ops listed i = true) (hr : (Region.ready md ops listed).contains i = true)
    (hQ : ∀ c a w, Q (.panic c) (a.put dt (.agg cs)) w → Q (.panic c) a w) (hdt : oi.dst = dt) (hw : Region.wanted oi (yielded ops a.tmps) = true) (ty : TypeId) (x : Operand) (ho : oi.op = .load ty x)
    (g : Nat) (hx : a.eval x = .pointer (some ⟨g, 0, none⟩)) (T : TypeId) (d : TypeDesc) (hB : ∀ w, S w → Blk w g cs T) (hu : P.underlying ty = some d)
    (hd : (match d with | .struct _ | .array _ _ => true | _ => false) = true) (hsz : (P.info? ty).map (·.size) = some cs.size) (hS : S w)
    (h : wpAnyH P md ops Q S fuel (listed.setIfInBounds i true) (a.put dt (.agg cs)) w) : wpAnyH P md ops Q S (fuel + 1) listed a w := by
  refine take_val i dt hi hs hf hr hQ hdt hw (fun w hSw => ?_) hS h
  unfold execOp
  simp only [ho, hx, Instr.loadAt, Instr.sureAddr, Sem.run_bind, Sem.run_pure, Result.andThen_ok, run_loadVar_row w g T ty cs (0, 0) d (hB w hSw) hu hd hsz]
theorem gl_load {P : Program} {ops : Array Oper} {rest : List Oper} {o : Oper} {a : Act} {w : World} {Q : Exit → Act → World → Prop} (hw : Region.wanted o (yielded ops a.tmps) = true) (ty : TypeId) (x : Operand) (ho : o.op = .load ty x)
    (g : Nat) (hx : a.eval x = .pointer (some ⟨g, 0, none⟩)) (t : TypeId) (cs : Array Value) (d : TypeDesc) (hg : Blk w g cs t)
    (hu : P.underlying ty = some d) (hd : (match d with | .struct _ | .array _ _ => true | _ => false) = true) (hi : (P.info? ty).map (·.size) = some cs.size)
    (h : wpList P ops Q rest (a.put o.dst (.agg cs)) w) : wpList P ops Q (o :: rest) a w := by
  unfold wpList
  rw [if_pos hw]
  exact Or.inl (wp_load_row ty x ho g hx t cs (0, 0) d hg hu hd hi h)
theorem gl_build {P : Program} {ops : Array Oper} {rest : List Oper} {o : Oper} {a : Act} {w : World} {Q : Exit → Act → World → Prop} (hw : Region.wanted o (yielded ops a.tmps) = true) (t : TypeId) (parts : Array (Nat × Operand)) (ho : o.op = .build t parts)
    (cells : Array Value) (hb : P.built t (parts.map fun (i, x) => (i, a.eval x)).toList = some cells) (h : wpList P ops Q rest (a.put o.dst (.agg cells)) w) : wpList P ops Q (o :: rest) a w := by
  unfold wpList
  rw [if_pos hw]
  exact Or.inl (wp_build t parts ho (by rw [hb]; rfl) (by rw [hb]; exact h))

end Go.Proofs.YtgjclegpnbjlkaaGreatDoor
