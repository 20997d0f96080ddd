import Derived.Test.YtgjclegpnbjlkaaGreatDoorProg
import Derived.WalkKit
import Derived.WalkSpells
import Derived.WalkLawsBesides
import Derived.RegionTactic
import Derived.BigRegion
import Derived.Deep.QuietTactic
import Derived.Deep.RegionWith
import Derived.BigQuiet
import Derived.Outline
import Derived.Handy
import Derived.Laws.BitsAllLaws
import Derived.Laws.Bits64b
import Derived.Laws.Rows
import Derived.Laws.Tables
import Derived.ChangeKeysEq
import Derived.Deep.RegionHeld3
set_option linter.all false
namespace Go.Proofs.YtgjclegpnbjlkaaGreatDoor
open Go.RowKit
def Blk (w : World) (b : Nat) (c : Array Value) (T : TypeId) : Prop := w.heap[b]? = some (.cells c T)
theorem Blk.cell {w : World} {b : Nat} {c : Array Value} {T : TypeId} (h : Blk w b c T) (i : Nat) : w.cell? ⟨b, i, none⟩ = c[i]? := by
 unfold Blk at h; simp [World.cell?, h]
theorem Blk.frozen {w : World} {b : Nat} {c : Array Value} {T : TypeId} (h : Blk w b c T) (i : Nat) : w.frozen? ⟨b, i, none⟩ = false := by
 unfold Blk at h; simp [World.frozen?, h]
theorem Blk.lt {w : World} {b : Nat} {c : Array Value} {T : TypeId} (h : Blk w b c T) : b < w.heap.size := by
 unfold Blk at h
 exact (Array.getElem?_eq_some_iff.1 h).1
theorem Blk.drew {w : World} {b : Nat} {c : Array Value} {T : TypeId} (h : Blk w b c T) : Blk w.drew b c T := h
theorem Blk.drewN {w : World} {b : Nat} {c : Array Value} {T : TypeId} (h : Blk w b c T) (n : Nat) : Blk (w.drewN n) b c T := h
theorem Blk.alloc {w : World} {b : Nat} {c : Array Value} {T : TypeId} (h : Blk w b c T) (o : Obj) : Blk (w.alloc o) b c T := by
 have := h.lt
 unfold Blk at h ⊢
 rw [Below.heap_alloc _ _ _ this]; exact h
theorem Blk.new (w : World) (c : Array Value) (T : TypeId) : Blk (w.alloc (.cells c T)) w.heap.size c T := by
 unfold Blk World.alloc; simp
theorem Blk.setCell {w : World} {b : Nat} {c : Array Value} {T : TypeId} (h : Blk w b c T) (i : Nat) (v : Value) : Blk (w.setCell ⟨b, i, none⟩ v) b (c.setIfInBounds i v) T := by
 unfold Blk at h ⊢
 simp only [World.setCell, Array.getElem?_modify, if_true, h]
 rfl
theorem Blk.setOther {w : World} {b d : Nat} {c : Array Value} {T : TypeId} (h : Blk w b c T) (hne : b ≠ d) (i : Nat) (v : Value) : Blk (w.setCell ⟨d, i, none⟩ v) b c T := by
 unfold Blk at h ⊢
 rw [Below.heap_setCell _ _ _ _ (by simpa using hne)]; exact h
theorem Blk.grown {w w' : World} {b : Nat} {c : Array Value} {T : TypeId} {r : Option Nat} (h : Blk w b c T) (hg : w.grownBy w' r) (hr : some b ≠ r) : Blk w' b c T := by
 have := h.lt
 unfold Blk at h ⊢
 rw [hg.block b this hr]; exact h
theorem Blk.setRow {w : World} {b : Nat} {c : Array Value} {T : TypeId} (h : Blk w b c T) (cs : Array Value) : Blk (w.setRow b cs) b cs T := setRow_heap w b c cs T _ h
theorem Blk.setRowOther {w : World} {b d : Nat} {c : Array Value} {T : TypeId} (h : Blk w b c T) (hne : b ≠ d) (cs : Array Value) : Blk (w.setRow d cs) b c T := by
 unfold Blk at h ⊢; rw [setRow_other w d b cs hne]; exact h
theorem Blk.to {w : World} {b : Nat} {c c' : Array Value} {T : TypeId} (h : Blk w b c T) (e : c = c') : Blk w b c' T := e ▸ h
/-! ### How a world has grown, by writes to one block alone (or none) -/
theorem gb_refl (w : World) (r : Option Nat) : w.grownBy w r := ⟨rfl, rfl, rfl, Nat.le_refl _, fun _ _ _ => rfl⟩
theorem gb_trans {a b c : World} {r : Option Nat} (h : a.grownBy b r) (k : b.grownBy c r) : a.grownBy c r :=
 ⟨k.os.trans h.os, k.tape.trans h.tape, k.output.trans h.output, Nat.le_trans h.size k.size, fun i hi hr => (k.block i (Nat.lt_of_lt_of_le hi h.size) hr).trans (h.block i hi hr)⟩
theorem gb_drew {a b : World} {r : Option Nat} (h : a.grownBy b r) : a.grownBy b.drew r := ⟨h.os, h.tape, h.output, h.size, h.block⟩
theorem gb_drewN {a b : World} {r : Option Nat} (h : a.grownBy b r) (n : Nat) : a.grownBy (b.drewN n) r := ⟨h.os, h.tape, h.output, h.size, h.block⟩
theorem gb_alloc {a b : World} {r : Option Nat} (h : a.grownBy b r) (o : Obj) : a.grownBy (b.alloc o) r := gb_trans h (World.grownBy_alloc b o r)
theorem gb_set {a b : World} {k : Nat} (h : a.grownBy b (some k)) (i : Nat) (v : Value) : a.grownBy (b.setCell ⟨k, i, none⟩ v) (some k) :=
 gb_trans h ⟨rfl, rfl, rfl, by simp, fun j _ hr => Below.heap_setCell _ _ _ _ (by simpa using hr)⟩
theorem gb_setRow {a b : World} {k : Nat} (h : a.grownBy b (some k)) (cs : Array Value) : a.grownBy (b.setRow k cs) (some k) :=
 gb_trans h ⟨rfl, rfl, rfl, by simp, fun j _ hr => setRow_other _ _ _ _ (by simpa using hr)⟩
/-! ### Bits of words -/
theorem wr (x : Int) (h0 : 0 ≤ x) (h1 : x < 18446744073709551616) : IntKind.u64.wrap x = x := by rw [IntKind.wrap_u64]; omega
theorem or_join (i : Nat) (x y : Int) (hi : i ≤ 64) (hx : 0 ≤ x) (hx1 : x < 2 ^ i) (hy : 0 ≤ y) (hy1 : y < 18446744073709551616) (hm : y % 2 ^ i = 0) : bits .or .u64 x y = x + y := by
 obtain ⟨a, rfl⟩ := Int.eq_ofNat_of_zero_le hx
 obtain ⟨b, rfl⟩ := Int.eq_ofNat_of_zero_le hy
 have ha : a < 2 ^ i := by exact_mod_cast hx1
 have hp : (2 : Nat) ^ i ≤ 2 ^ 64 := Nat.pow_le_pow_right (by omega) hi
 have hb : b % 2 ^ i = 0 := by exact_mod_cast hm
 rw [u64_or_nat a b (by omega) (by omega), Nat.or_comm, nat_join i b a hb ha]
 omega
def by8 (n : Int) (i : Nat) : Int := n / 256 ^ i % 256
def feL (n : Int) : List Value := [.int .u8 (by8 n 0), .int .u8 (by8 n 1), .int .u8 (by8 n 2), .int .u8 (by8 n 3), .int .u8 (by8 n 4), .int .u8 (by8 n 5), .int .u8 (by8 n 6), .int .u8 (by8 n 7), .int .u8 (by8 n 8), .int .u8 (by8 n 9), .int .u8 (by8 n 10), .int .u8 (by8 n 11), .int .u8 (by8 n 12), .int .u8 (by8 n 13), .int .u8 (by8 n 14), .int .u8 (by8 n 15), .int .u8 (by8 n 16), .int .u8 (by8 n 17), .int .u8 (by8 n 18), .int .u8 (by8 n 19), .int .u8 (by8 n 20), .int .u8 (by8 n 21), .int .u8 (by8 n 22), .int .u8 (by8 n 23), .int .u8 (by8 n 24), .int .u8 (by8 n 25), .int .u8 (by8 n 26), .int .u8 (by8 n 27), .int .u8 (by8 n 28), .int .u8 (by8 n 29), .int .u8 (by8 n 30), .int .u8 (by8 n 31)]
abbrev feC (n : Int) : Array Value := (feL n).toArray
abbrev fe (n : Int) : Value := .agg (feC n)
structure Chg (w w' : World) (l : List Nat) : Prop where
 os : w'.os = w.os
 tape : w'.tape = w.tape
 output : w'.output = w.output
 size : w.heap.size ≤ w'.heap.size
 block : ∀ k, k < w.heap.size → ¬ k ∈ l → w'.heap[k]? = w.heap[k]?
theorem Chg.of {w w' : World} {z : Nat} (h : w.grownBy w' (some z)) : Chg w w' [z] := ⟨h.os, h.tape, h.output, h.size, fun k hk hl => h.block k hk (by simpa using hl)⟩
theorem Chg.ofNone {w w' : World} (h : w.grownBy w' none) (l : List Nat) : Chg w w' l := ⟨h.os, h.tape, h.output, h.size, fun k hk _ => h.block k hk (by simp)⟩
theorem Chg.refl (w : World) (l : List Nat) : Chg w w l := ⟨rfl, rfl, rfl, Nat.le_refl _, fun _ _ _ => rfl⟩
theorem Chg.trans {a b c : World} {l m : List Nat} (h : Chg a b l) (k : Chg b c m) (hm : ∀ i, i ∈ m → i ∈ l ∨ a.heap.size ≤ i) : Chg a c l :=
 ⟨k.os.trans h.os, k.tape.trans h.tape, k.output.trans h.output, Nat.le_trans h.size k.size, fun i hi hl => by
   rw [k.block i (Nat.lt_of_lt_of_le hi h.size) (fun hx => by rcases hm i hx with h1 | h1; exact hl h1; omega)]
   exact h.block i hi hl⟩
theorem Chg.trans1 {a b c : World} {l : List Nat} (h : Chg a b l) (k : Chg b c l) : Chg a c l := h.trans k (fun _ hi => Or.inl hi)
theorem Chg.new {a b c : World} {l : List Nat} {z : Nat} (h : Chg a b l) (k : Chg b c [z]) (hz : a.heap.size ≤ z) : Chg a c l := h.trans k (fun i hi => by simp at hi; subst hi; exact Or.inr hz)
theorem Chg.alloc {a b : World} {l : List Nat} (h : Chg a b l) (o : Obj) : Chg a (b.alloc o) l := h.trans (Chg.ofNone (World.grownBy_alloc b o none) []) (fun i hi => by simp at hi)
theorem Chg.drew {a b : World} {l : List Nat} (h : Chg a b l) : Chg a b.drew l := ⟨h.os, h.tape, h.output, h.size, h.block⟩
theorem Chg.drewN {a b : World} {l : List Nat} (h : Chg a b l) (n : Nat) : Chg a (b.drewN n) l := ⟨h.os, h.tape, h.output, h.size, h.block⟩
theorem Chg.below {a b : World} (h : Chg a b []) : Below a.heap.size a b := ⟨h.os, h.tape, h.output, h.size, fun k hk => h.block k hk (by simp)⟩
theorem Chg.setRowNew {a b : World} {l : List Nat} {k : Nat} (h : Chg a b l) (hk : a.heap.size ≤ k) (cs : Array Value) : Chg a (b.setRow k cs) l :=
 h.new (Chg.of (gb_setRow (gb_refl b _) cs)) hk
theorem Chg.setIn {a b : World} {l : List Nat} {k : Nat} (h : Chg a b l) (hk : k ∈ l) (i : Nat) (v : Value) : Chg a (b.setCell ⟨k, i, none⟩ v) l :=
 h.trans (Chg.of (gb_set (gb_refl b _) i v)) (fun j hj => by simp at hj; subst hj; exact Or.inl hk)
theorem Chg.setNew {a b : World} {l : List Nat} {k : Nat} (h : Chg a b l) (hk : a.heap.size ≤ k) (i : Nat) (v : Value) : Chg a (b.setCell ⟨k, i, none⟩ v) l :=
 h.new (Chg.of (gb_set (gb_refl b _) i v)) hk
theorem Chg.wide {a b : World} {l : List Nat} (h : Chg a b []) : Chg a b l := ⟨h.os, h.tape, h.output, h.size, fun k hk _ => h.block k hk (by simp)⟩
theorem Chg.incl {a b : World} {l m : List Nat} (h : Chg a b l) (hi : ∀ i, i ∈ l → i ∈ m) : Chg a b m := ⟨h.os, h.tape, h.output, h.size, fun k hk hl => h.block k hk (fun hx => hl (hi k hx))⟩
theorem Blk.chg {w w' : World} {b : Nat} {c : Array Value} {T : TypeId} {l : List Nat} (h : Blk w b c T) (hc : Chg w w' l) (hb : ¬ b ∈ l) : Blk w' b c T := by
 have := h.lt
 unfold Blk at h ⊢
 rw [hc.block b this hb]; exact h
theorem eqItems_ints {P : Program} (w : World) (d : Nat) {e : TypeId} {k : IntKind} (hu : P.underlying e = some (.int k)) (xs ys : Array Value) (f g : Nat → Int) :
   ∀ is : List Nat, (∀ i, i ∈ is → xs[i]? = some (.int k (f i)) ∧ ys[i]? = some (.int k (g i))) → (Op.eqItems (d + 1) e 1 xs ys is).run P w = .ok (is.all fun i => f i == g i) w
 | [], _ => by simp [Op.eqItems]
 | i :: is, h => by
   have hp : P.plainKey e = true := by unfold Program.plainKey; rw [hu]
   obtain ⟨h1, h2⟩ := h i (by simp)
   have e1 := run_part_plain (P := P) w hp (xs := xs) (off := i * 1) (by rw [Nat.mul_one]; exact h1)
   have e2 := run_part_plain (P := P) w hp (xs := ys) (off := i * 1) (by rw [Nat.mul_one]; exact h2)
   have e3 := run_equalIn_int (P := P) w d e k k (f i) (g i) hu
   have ih := eqItems_ints w d hu xs ys f g is (fun j hj => h j (by simp [hj]))
   simp only [Op.eqItems, Sem.run_bind, e1, e2, e3, Result.andThen_ok]
   cases hb : (f i == g i)
   · simp [hb]
   · simp [ih, hb]
def eqf (n m : Int) : Bool := (List.range 32).all fun i => by8 n i == by8 m i
@[go_sem] theorem eqf_self (n : Int) : eqf n n = true := by simp [eqf]
theorem Blk.range {w : World} {b : Nat} {n : Int} {T : TypeId} (h : Blk w b (feC n) T) : w.rangeAt b 0 (feL n) := fun j v hv => by
 rw [h.cell, Nat.zero_add]; simpa using hv
theorem take_val {P : Program} {ops : Array Oper} {Q : Exit → Act → World → Prop} {md : Region.Mode} {S : World → Prop} {oi : Oper} {fuel : Nat} {listed : Array Bool} {a : Act} {w : World} {v : Value} (i : Nat) (d : Option Tmp) (hi : ops[i]? = some oi)
   (hs : Region.noSelect ops = true) (hf : Region.free md ops listed i = true) (hr : (Region.ready md ops listed).contains i = true)
   (hQ : ∀ c a w, Q (.panic c) (a.put d v) w → Q (.panic c) a w) (hd : oi.dst = d) (hw : Region.wanted oi (yielded ops a.tmps) = true)
   (hy : ∀ w, S w → (execOp a.eval oi).run P w = .ok (.value v) w) (hS : S w) (h : wpAnyH P md ops Q S fuel (listed.setIfInBounds i true) (a.put d v) w) : wpAnyH P md ops Q S (fuel + 1) listed a w := by
 subst hd
 exact wpAnyH_take hi hs hf hr hQ (Or.inl ⟨hw, hy⟩) hS h
theorem sA1 {α : Type} (l : List α) (i : Nat) (a : α) : l.toArray.setIfInBounds i a = (l.set i a).toArray := List.setIfInBounds_toArray ..
theorem sA {α : Type} : (∀ (l : List α) (i : Nat) (a : α), l.toArray.setIfInBounds i a = (l.set i a).toArray) ∧ (∀ (a b : α) (l : List α), (a :: l).set 0 b = b :: l) ∧ ∀ (a b : α) (l : List α) (n : Nat), (a :: l).set (n + 1) b = a :: l.set n b := ⟨sA1, fun _ _ _ => rfl, fun _ _ _ _ => rfl⟩
theorem tv {P : Program} {ops : Array Oper} {Q : Exit → Act → World → Prop} {md : Region.Mode} {S : World → Prop} {oi : Oper} {fuel : Nat} {listed : Array Bool} {a : Act} {w : World} (v : Value) (i : Nat) (d : Option Tmp) (hi : ops[i]? = some oi)
   (hy : ∀ w, S w → (execOp a.eval oi).run P w = .ok (.value v) w) (hS : S w) (h : wpAnyH P md ops Q S fuel (listed.setIfInBounds i true) (a.put d v) w)
   (hb : (Region.noSelect ops && (Region.free md ops listed i && (Region.ready md ops listed).contains i)) = true := by kernel_rfl) (hd : oi.dst = d := by exact rfl) (hw : Region.wanted oi (yielded ops a.tmps) = true := by exact rfl)
   (hQ : ∀ c a w, Q (.panic c) (a.put d v) w → Q (.panic c) a w := by exact fun _ _ _ h => h) : wpAnyH P md ops Q S (fuel + 1) listed a w := by
 simp only [Bool.and_eq_true] at hb
 exact take_val i d hi hb.1 hb.2.1 hb.2.2 hQ hd hw hy hS h
theorem take_load {P : Program} {ops : Array Oper} {Q : Exit → Act → World → Prop} {md : Region.Mode} {S : World → Prop} {oi : Oper} {fuel : Nat} {listed : Array Bool} {a : Act} {w : World} (i : Nat) (dt : Option Tmp) (cs : Array Value) (hi : ops[i]? = some oi)
   (hs : Region.noSelect ops = true) (hf : Region.free md ops listed i = true) (hr : (Region.ready md ops listed).contains i = true)
   (hQ : ∀ c a w, Q (.panic c) (a.put dt (.agg cs)) w → Q (.panic c) a w) (hdt : oi.dst = dt) (hw : Region.wanted oi (yielded ops a.tmps) = true) (ty : TypeId) (x : Operand) (ho : oi.op = .load ty x)
   (g : Nat) (hx : a.eval x = .pointer (some ⟨g, 0, none⟩)) (T : TypeId) (d : TypeDesc) (hB : ∀ w, S w → Blk w g cs T) (hu : P.underlying ty = some d)
   (hd : (match d with | .struct _ | .array _ _ => true | _ => false) = true) (hsz : (P.info? ty).map (·.size) = some cs.size) (hS : S w)
   (h : wpAnyH P md ops Q S fuel (listed.setIfInBounds i true) (a.put dt (.agg cs)) w) : wpAnyH P md ops Q S (fuel + 1) listed a w := by
 refine take_val i dt hi hs hf hr hQ hdt hw (fun w hSw => ?_) hS h
 unfold execOp
 simp only [ho, hx, Instr.loadAt, Instr.sureAddr, Sem.run_bind, Sem.run_pure, Result.andThen_ok, run_loadVar_row w g T ty cs (0, 0) d (hB w hSw) hu hd hsz]
end Go.Proofs.YtgjclegpnbjlkaaGreatDoor
