/- Five limbs in a block of memory, and how worlds grow: small lemmas that every walk of the package field uses. -/
import Derived.Test.YtialljmkkichiabProg
import Derived.WalkKit
import Derived.WalkSpells
import Derived.WalkLawsBesides
import Derived.RegionTactic
import Derived.BigRegion
import Derived.Deep.QuietTactic
import Derived.Deep.RegionWith
import Derived.BigQuiet
import Derived.Outline
import Derived.Handy
import Derived.Laws.BitsAllLaws
import Derived.Laws.Bits64b
import Derived.Laws.Rows
import Derived.Laws.Tables
set_option linter.unusedVariables false
set_option linter.unusedSimpArgs false
set_option linter.unnecessarySimpa false
namespace Go.Proofs.Ytialljmkkichiab
open Go.RowKit

/-- Block b holds these cells (of type T). -/
def Blk (w : World) (b : Nat) (c : Array Value) (T : TypeId) : Prop := w.heap[b]? = some (.cells c T)
/-- Five limbs in block b. -/
def NumAt (w : World) (b : Nat) (x0 x1 x2 x3 x4 : Int) : Prop := Blk w b #[.int .u64 x0, .int .u64 x1, .int .u64 x2, .int .u64 x3, .int .u64 x4] 79

theorem Blk.cell {w : World} {b : Nat} {c : Array Value} {T : TypeId} (h : Blk w b c T) (i : Nat) : w.cell? ⟨b, i, none⟩ = c[i]? := by
  unfold Blk at h; simp [World.cell?, h]
theorem Blk.frozen {w : World} {b : Nat} {c : Array Value} {T : TypeId} (h : Blk w b c T) (i : Nat) : w.frozen? ⟨b, i, none⟩ = false := by
  unfold Blk at h; simp [World.frozen?, h]
theorem Blk.lt {w : World} {b : Nat} {c : Array Value} {T : TypeId} (h : Blk w b c T) : b < w.heap.size := by
  unfold Blk at h
  exact (Array.getElem?_eq_some_iff.1 h).1
theorem Blk.drew {w : World} {b : Nat} {c : Array Value} {T : TypeId} (h : Blk w b c T) : Blk w.drew b c T := h
theorem Blk.drewN {w : World} {b : Nat} {c : Array Value} {T : TypeId} (h : Blk w b c T) (n : Nat) : Blk (w.drewN n) b c T := h
theorem Blk.alloc {w : World} {b : Nat} {c : Array Value} {T : TypeId} (h : Blk w b c T) (o : Obj) : Blk (w.alloc o) b c T := by
  have := h.lt
  unfold Blk at h ⊢
  rw [Below.heap_alloc _ _ _ this]; exact h
theorem Blk.new (w : World) (c : Array Value) (T : TypeId) : Blk (w.alloc (.cells c T)) w.heap.size c T := by
  unfold Blk World.alloc; simp
theorem Blk.setCell {w : World} {b : Nat} {c : Array Value} {T : TypeId} (h : Blk w b c T) (i : Nat) (v : Value) : Blk (w.setCell ⟨b, i, none⟩ v) b (c.setIfInBounds i v) T := by
  unfold Blk at h ⊢
  simp only [World.setCell, Array.getElem?_modify, if_true, h]
  rfl
theorem Blk.setOther {w : World} {b d : Nat} {c : Array Value} {T : TypeId} (h : Blk w b c T) (hne : b ≠ d) (i : Nat) (v : Value) : Blk (w.setCell ⟨d, i, none⟩ v) b c T := by
  unfold Blk at h ⊢
  rw [Below.heap_setCell _ _ _ _ (by simpa using hne)]; exact h
theorem Blk.grown {w w' : World} {b : Nat} {c : Array Value} {T : TypeId} {r : Option Nat} (h : Blk w b c T) (hg : w.grownBy w' r) (hr : some b ≠ r) : Blk w' b c T := by
  have := h.lt
  unfold Blk at h ⊢
  rw [hg.block b this hr]; exact h

theorem Blk.setRow {w : World} {b : Nat} {c : Array Value} {T : TypeId} (h : Blk w b c T) (cs : Array Value) : Blk (w.setRow b cs) b cs T := setRow_heap w b c cs T _ h
theorem Blk.setRowOther {w : World} {b d : Nat} {c : Array Value} {T : TypeId} (h : Blk w b c T) (hne : b ≠ d) (cs : Array Value) : Blk (w.setRow d cs) b c T := by
  unfold Blk at h ⊢; rw [setRow_other w d b cs hne]; exact h
theorem Blk.to {w : World} {b : Nat} {c c' : Array Value} {T : TypeId} (h : Blk w b c T) (e : c = c') : Blk w b c' T := e ▸ h

/-! ### How a world has grown, by writes to one block alone (or none) -/
theorem gb_refl (w : World) (r : Option Nat) : w.grownBy w r := ⟨rfl, rfl, rfl, Nat.le_refl _, fun _ _ _ => rfl⟩
theorem gb_trans {a b c : World} {r : Option Nat} (h : a.grownBy b r) (k : b.grownBy c r) : a.grownBy c r :=
  ⟨k.os.trans h.os, k.tape.trans h.tape, k.output.trans h.output, Nat.le_trans h.size k.size, fun i hi hr => (k.block i (Nat.lt_of_lt_of_le hi h.size) hr).trans (h.block i hi hr)⟩
/-- What is written lies in a block that is new. -/
theorem gb_new {a b c : World} {r : Option Nat} {k : Nat} (h : a.grownBy b r) (g : b.grownBy c (some k)) (hk : a.heap.size ≤ k) : a.grownBy c r :=
  ⟨g.os.trans h.os, g.tape.trans h.tape, g.output.trans h.output, Nat.le_trans h.size g.size, fun i hi hr => (g.block i (Nat.lt_of_lt_of_le hi h.size) (by simp; omega)).trans (h.block i hi hr)⟩
theorem gb_none {a b : World} (h : a.grownBy b none) (r : Option Nat) : a.grownBy b r := ⟨h.os, h.tape, h.output, h.size, fun i hi _ => h.block i hi (by simp)⟩
theorem gb_drew {a b : World} {r : Option Nat} (h : a.grownBy b r) : a.grownBy b.drew r := ⟨h.os, h.tape, h.output, h.size, h.block⟩
theorem gb_drewN {a b : World} {r : Option Nat} (h : a.grownBy b r) (n : Nat) : a.grownBy (b.drewN n) r := ⟨h.os, h.tape, h.output, h.size, h.block⟩
theorem gb_alloc {a b : World} {r : Option Nat} (h : a.grownBy b r) (o : Obj) : a.grownBy (b.alloc o) r := gb_trans h (World.grownBy_alloc b o r)
theorem gb_set {a b : World} {k : Nat} (h : a.grownBy b (some k)) (i : Nat) (v : Value) : a.grownBy (b.setCell ⟨k, i, none⟩ v) (some k) :=
  gb_trans h ⟨rfl, rfl, rfl, by simp, fun j _ hr => Below.heap_setCell _ _ _ _ (by simpa using hr)⟩
theorem gb_setNew {a b : World} {r : Option Nat} {k : Nat} (h : a.grownBy b r) (hk : a.heap.size ≤ k) (i : Nat) (v : Value) : a.grownBy (b.setCell ⟨k, i, none⟩ v) r :=
  gb_new h (gb_set (gb_refl b (some k)) i v) hk
theorem gb_setRow {a b : World} {k : Nat} (h : a.grownBy b (some k)) (cs : Array Value) : a.grownBy (b.setRow k cs) (some k) :=
  gb_trans h ⟨rfl, rfl, rfl, by simp, fun j _ hr => setRow_other _ _ _ _ (by simpa using hr)⟩
theorem gb_setRowNew {a b : World} {r : Option Nat} {k : Nat} (h : a.grownBy b r) (hk : a.heap.size ≤ k) (cs : Array Value) : a.grownBy (b.setRow k cs) r :=
  gb_new h (gb_setRow (gb_refl b (some k)) cs) hk
theorem gb_below {a b : World} (h : a.grownBy b none) : Below a.heap.size a b := ⟨h.os, h.tape, h.output, h.size, fun i hi => h.block i hi (by simp)⟩
theorem gb_of_below {a b : World} (h : Below a.heap.size a b) : a.grownBy b none := ⟨h.os, h.tape, h.output, h.size, fun i hi _ => h.block i hi⟩

/-! ### Bits of words -/
theorem and51 (x : Int) (h0 : 0 ≤ x) (h1 : x < 18446744073709551616) : bits .and .u64 x 2251799813685247 = x % 2251799813685248 := by
  obtain ⟨n, rfl⟩ := Int.eq_ofNat_of_zero_le h0
  have h := bits_and_u64_nat n 2251799813685247 (by omega) (by omega)
  have e : n &&& 2251799813685247 = n % 2251799813685248 := Nat.and_two_pow_sub_one_eq_mod n 51
  rw [e] at h
  refine Eq.trans ?_ (h.trans ?_)
  · rfl
  · omega
theorem wr (x : Int) (h0 : 0 ≤ x) (h1 : x < 18446744073709551616) : IntKind.u64.wrap x = x := by rw [IntKind.wrap_u64]; omega
/-- 'lo | hi' where hi is a multiple of 2^i and lo lies below it. -/
theorem or_join (i : Nat) (x y : Int) (hi : i ≤ 64) (hx : 0 ≤ x) (hx1 : x < 2 ^ i) (hy : 0 ≤ y) (hy1 : y < 18446744073709551616) (hm : y % 2 ^ i = 0) : bits .or .u64 x y = x + y := by
  obtain ⟨a, rfl⟩ := Int.eq_ofNat_of_zero_le hx
  obtain ⟨b, rfl⟩ := Int.eq_ofNat_of_zero_le hy
  have ha : a < 2 ^ i := by exact_mod_cast hx1
  have hp : (2 : Nat) ^ i ≤ 2 ^ 64 := Nat.pow_le_pow_right (by omega) hi
  have hb : b % 2 ^ i = 0 := by exact_mod_cast hm
  rw [u64_or_nat a b (by omega) (by omega), Nat.or_comm, nat_join i b a hb ha]
  omega
theorem or_join' (i : Nat) (y x : Int) (hi : i ≤ 64) (hx : 0 ≤ x) (hx1 : x < 2 ^ i) (hy : 0 ≤ y) (hy1 : y < 18446744073709551616) (hm : y % 2 ^ i = 0) : bits .or .u64 y x = y + x := by
  obtain ⟨a, rfl⟩ := Int.eq_ofNat_of_zero_le hx
  obtain ⟨b, rfl⟩ := Int.eq_ofNat_of_zero_le hy
  have ha : a < 2 ^ i := by exact_mod_cast hx1
  have hp : (2 : Nat) ^ i ≤ 2 ^ 64 := Nat.pow_le_pow_right (by omega) hi
  have hb : b % 2 ^ i = 0 := by exact_mod_cast hm
  rw [u64_or_nat b a (by omega) (by omega), nat_join i b a hb ha]
  omega
end Go.Proofs.Ytialljmkkichiab
