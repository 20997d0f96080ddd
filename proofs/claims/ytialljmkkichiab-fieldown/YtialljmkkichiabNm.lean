/- Numbers modulo P in blocks: the contracts of the methods of number, by their values alone. -/
import Derived.Test.YtialljmkkichiabMul
import Derived.Test.YtialljmkkichiabSquare
import Derived.Test.YtialljmkkichiabAddSub
import Derived.Test.YtialljmkkichiabLoad
import Derived.Test.YtialljmkkichiabBytes
set_option linter.unusedVariables false
set_option linter.unusedSimpArgs false
set_option linter.unnecessarySimpa false
namespace Go.Proofs.Ytialljmkkichiab
open Go.RowKit N

/-- Of old blocks none but those listed has turned. -/
structure Chg (w w' : World) (l : List Nat) : Prop where
  os : w'.os = w.os
  tape : w'.tape = w.tape
  output : w'.output = w.output
  size : w.heap.size ≤ w'.heap.size
  block : ∀ k, k < w.heap.size → ¬ k ∈ l → w'.heap[k]? = w.heap[k]?

theorem Chg.of {w w' : World} {z : Nat} (h : w.grownBy w' (some z)) : Chg w w' [z] := ⟨h.os, h.tape, h.output, h.size, fun k hk hl => h.block k hk (by simpa using hl)⟩
theorem Chg.ofNone {w w' : World} (h : w.grownBy w' none) (l : List Nat) : Chg w w' l := ⟨h.os, h.tape, h.output, h.size, fun k hk _ => h.block k hk (by simp)⟩
theorem Chg.refl (w : World) (l : List Nat) : Chg w w l := ⟨rfl, rfl, rfl, Nat.le_refl _, fun _ _ _ => rfl⟩
theorem Chg.trans {a b c : World} {l m : List Nat} (h : Chg a b l) (k : Chg b c m) (hm : ∀ i, i ∈ m → i ∈ l ∨ a.heap.size ≤ i) : Chg a c l :=
  ⟨k.os.trans h.os, k.tape.trans h.tape, k.output.trans h.output, Nat.le_trans h.size k.size, fun i hi hl => by
    rw [k.block i (Nat.lt_of_lt_of_le hi h.size) (fun hx => by rcases hm i hx with h1 | h1; exact hl h1; omega)]
    exact h.block i hi hl⟩
theorem Chg.trans1 {a b c : World} {l : List Nat} (h : Chg a b l) (k : Chg b c l) : Chg a c l := h.trans k (fun _ hi => Or.inl hi)
theorem Chg.new {a b c : World} {l : List Nat} {z : Nat} (h : Chg a b l) (k : Chg b c [z]) (hz : a.heap.size ≤ z) : Chg a c l := h.trans k (fun i hi => by simp at hi; subst hi; exact Or.inr hz)
theorem Chg.alloc {a b : World} {l : List Nat} (h : Chg a b l) (o : Obj) : Chg a (b.alloc o) l := h.trans (Chg.ofNone (World.grownBy_alloc b o none) []) (fun i hi => by simp at hi)
theorem Chg.drew {a b : World} {l : List Nat} (h : Chg a b l) : Chg a b.drew l := ⟨h.os, h.tape, h.output, h.size, h.block⟩
theorem Chg.drewN {a b : World} {l : List Nat} (h : Chg a b l) (n : Nat) : Chg a (b.drewN n) l := ⟨h.os, h.tape, h.output, h.size, h.block⟩
theorem Chg.below {a b : World} (h : Chg a b []) : Below a.heap.size a b := ⟨h.os, h.tape, h.output, h.size, fun k hk => h.block k hk (by simp)⟩
theorem Chg.ofBelow {a b : World} (h : Below a.heap.size a b) (l : List Nat) : Chg a b l := ⟨h.os, h.tape, h.output, h.size, fun k hk _ => h.block k hk⟩
theorem Chg.setRowNew {a b : World} {l : List Nat} {k : Nat} (h : Chg a b l) (hk : a.heap.size ≤ k) (cs : Array Value) : Chg a (b.setRow k cs) l :=
  h.new (Chg.of (gb_setRow (gb_refl b _) cs)) hk
theorem Blk.chg {w w' : World} {b : Nat} {c : Array Value} {T : TypeId} {l : List Nat} (h : Blk w b c T) (hc : Chg w w' l) (hb : ¬ b ∈ l) : Blk w' b c T := by
  have := h.lt
  unfold Blk at h ⊢
  rw [hc.block b this hb]; exact h

/-- A number's block. -/
def An (w : World) (b : Nat) : Prop := ∃ x0 x1 x2 x3 x4 : Int, NumAt w b x0 x1 x2 x3 x4
/-- .. that stands for n. -/
def Nm (w : World) (b : Nat) (n : Int) : Prop := ∃ x0 x1 x2 x3 x4 : Int, NumAt w b x0 x1 x2 x3 x4 ∧ LV x0 x1 x2 x3 x4 n
theorem Nm.an {w : World} {b : Nat} {n : Int} (h : Nm w b n) : An w b := by obtain ⟨x0, x1, x2, x3, x4, h, _⟩ := h; exact ⟨x0, x1, x2, x3, x4, h⟩
theorem An.lt {w : World} {b : Nat} (h : An w b) : b < w.heap.size := by obtain ⟨x0, x1, x2, x3, x4, h⟩ := h; exact Blk.lt h
theorem Nm.lt {w : World} {b : Nat} {n : Int} (h : Nm w b n) : b < w.heap.size := h.an.lt
theorem An.chg {w w' : World} {b : Nat} {l : List Nat} (h : An w b) (hc : Chg w w' l) (hb : ¬ b ∈ l) : An w' b := by obtain ⟨x0, x1, x2, x3, x4, h⟩ := h; exact ⟨x0, x1, x2, x3, x4, Blk.chg h hc hb⟩
theorem Nm.chg {w w' : World} {b : Nat} {n : Int} {l : List Nat} (h : Nm w b n) (hc : Chg w w' l) (hb : ¬ b ∈ l) : Nm w' b n := by obtain ⟨x0, x1, x2, x3, x4, h, hl⟩ := h; exact ⟨x0, x1, x2, x3, x4, Blk.chg h hc hb, hl⟩
theorem An.alloc {w : World} {b : Nat} (h : An w b) (o : Obj) : An (w.alloc o) b := by obtain ⟨x0, x1, x2, x3, x4, h⟩ := h; exact ⟨x0, x1, x2, x3, x4, Blk.alloc h o⟩
theorem Nm.alloc {w : World} {b : Nat} {n : Int} (h : Nm w b n) (o : Obj) : Nm (w.alloc o) b n := by obtain ⟨x0, x1, x2, x3, x4, h, hl⟩ := h; exact ⟨x0, x1, x2, x3, x4, Blk.alloc h o, hl⟩
theorem An.new (w : World) : An (w.alloc (.cells #[.int .u64 0, .int .u64 0, .int .u64 0, .int .u64 0, .int .u64 0] 79)) w.heap.size := ⟨0, 0, 0, 0, 0, Blk.new w _ _⟩
theorem Nm.new (w : World) : Nm (w.alloc (.cells #[.int .u64 0, .int .u64 0, .int .u64 0, .int .u64 0, .int .u64 0] 79)) w.heap.size 0 :=
  ⟨0, 0, 0, 0, 0, Blk.new w _ _, ⟨⟨by decide, by decide⟩, ⟨by decide, by decide⟩, ⟨by decide, by decide⟩, ⟨by decide, by decide⟩, ⟨by decide, by decide⟩⟩, by decide⟩

theorem load_nm (z g : Nat) (n : Int) (T : TypeId) (w : World) (hn0 : 0 ≤ n) (hn1 : n < 115792089237316195423570985008687907853269984665640564039457584007913129639936) (hz : An w z) (hg : Blk w g (feC n) T) :
    Calls Try.prog 36 #[.pointer (some ⟨z, 0, none⟩), .pointer (some ⟨g, 0, none⟩)] w fun e w' => e = .returned (.tuple #[]) ∧ Nm w' z (n % P) ∧ Chg w w' [z] := by
  obtain ⟨x0, x1, x2, x3, x4, hz⟩ := hz
  refine (load_any z g n x0 x1 x2 x3 x4 T w hn0 hn1 hz hg).mono ?_
  rintro e w' ⟨he, y0, y1, y2, y3, y4, hn, hg, hl, hv⟩
  exact ⟨he, ⟨y0, y1, y2, y3, y4, hn, hl, by rw [hv]⟩, Chg.of hg⟩

theorem bytes_nm (z : Nat) (n : Int) (w : World) (hz : Nm w z n) :
    Calls Try.prog 38 #[.pointer (some ⟨z, 0, none⟩)] w fun e w' => e = .returned (fe n) ∧ Nm w' z n ∧ Chg w w' [z] := by
  obtain ⟨x0, x1, x2, x3, x4, hz, ⟨l0, l1, l2, l3, l4⟩, hv⟩ := hz
  refine (bytes_any z x0 x1 x2 x3 x4 w hz (lo_wo l0) (lo_wo l1) (lo_wo l2) (lo_wo l3) (lo_wo l4)).mono ?_
  rintro e w' ⟨he, y0, y1, y2, y3, y4, hn, hg, ⟨k0, k1, k2, k3, k4⟩, hv'⟩
  rw [hv] at he hv'
  refine ⟨he, ⟨y0, y1, y2, y3, y4, hn, ⟨⟨k0.1, by have := k0.2; omega⟩, ⟨k1.1, by have := k1.2; omega⟩, ⟨k2.1, by have := k2.2; omega⟩, ⟨k3.1, by have := k3.2; omega⟩, ⟨k4.1, by have := k4.2; omega⟩⟩, ?_⟩, Chg.of hg⟩
  rw [hv', ← hv, Int.emod_emod_of_dvd _ (Int.dvd_refl P)]

theorem mul_nm (z x y : Nat) (n m : Int) (w : World) (hz : An w z) (hx : Nm w x n) (hy : Nm w y m) :
    Calls Try.prog 40 #[.pointer (some ⟨z, 0, none⟩), .pointer (some ⟨x, 0, none⟩), .pointer (some ⟨y, 0, none⟩)] w fun e w' => e = .returned (.tuple #[]) ∧ Nm w' z (n * m % P) ∧ Chg w w' [z] := by
  obtain ⟨c0, c1, c2, c3, c4, hz⟩ := hz
  obtain ⟨a0, a1, a2, a3, a4, hx, ⟨la0, la1, la2, la3, la4⟩, hvx⟩ := hx
  obtain ⟨b0, b1, b2, b3, b4, hy, ⟨lb0, lb1, lb2, lb3, lb4⟩, hvy⟩ := hy
  refine (mul_any z x y a0 a1 a2 a3 a4 b0 b1 b2 b3 b4 c0 c1 c2 c3 c4 w hz hx hy la0 la1 la2 la3 la4 lb0 lb1 lb2 lb3 lb4).mono ?_
  rintro e w' ⟨he, y0, y1, y2, y3, y4, hn, hg, hl, hv⟩
  exact ⟨he, ⟨y0, y1, y2, y3, y4, hn, hl, by rw [hv, Int.mul_emod, hvx, hvy]⟩, Chg.of hg⟩

theorem square_nm (z x : Nat) (n : Int) (w : World) (hz : An w z) (hx : Nm w x n) :
    Calls Try.prog 43 #[.pointer (some ⟨z, 0, none⟩), .pointer (some ⟨x, 0, none⟩)] w fun e w' => e = .returned (.tuple #[]) ∧ Nm w' z (n * n % P) ∧ Chg w w' [z] := by
  obtain ⟨c0, c1, c2, c3, c4, hz⟩ := hz
  obtain ⟨a0, a1, a2, a3, a4, hx, ⟨la0, la1, la2, la3, la4⟩, hvx⟩ := hx
  refine (square_any z x a0 a1 a2 a3 a4 c0 c1 c2 c3 c4 w hz hx la0 la1 la2 la3 la4).mono ?_
  rintro e w' ⟨he, y0, y1, y2, y3, y4, hn, hg, hl, hv⟩
  exact ⟨he, ⟨y0, y1, y2, y3, y4, hn, hl, by rw [hv, Int.mul_emod, hvx]⟩, Chg.of hg⟩

theorem add_nm (z x y : Nat) (n m : Int) (w : World) (hz : An w z) (hx : Nm w x n) (hy : Nm w y m) :
    Calls Try.prog 37 #[.pointer (some ⟨z, 0, none⟩), .pointer (some ⟨x, 0, none⟩), .pointer (some ⟨y, 0, none⟩)] w fun e w' => e = .returned (.tuple #[]) ∧ Nm w' z ((n + m) % P) ∧ Chg w w' [z] := by
  obtain ⟨c0, c1, c2, c3, c4, hz⟩ := hz
  obtain ⟨a0, a1, a2, a3, a4, hx, ⟨la0, la1, la2, la3, la4⟩, hvx⟩ := hx
  obtain ⟨b0, b1, b2, b3, b4, hy, ⟨lb0, lb1, lb2, lb3, lb4⟩, hvy⟩ := hy
  refine (add_any z x y a0 a1 a2 a3 a4 b0 b1 b2 b3 b4 c0 c1 c2 c3 c4 w hz hx hy la0 la1 la2 la3 la4 lb0 lb1 lb2 lb3 lb4).mono ?_
  rintro e w' ⟨he, y0, y1, y2, y3, y4, hn, hg, hl, hv⟩
  exact ⟨he, ⟨y0, y1, y2, y3, y4, hn, hl, by rw [hv, Int.add_emod, hvx, hvy]⟩, Chg.of hg⟩

theorem sub_nm (z x y : Nat) (n m : Int) (w : World) (hz : An w z) (hx : Nm w x n) (hy : Nm w y m) :
    Calls Try.prog 39 #[.pointer (some ⟨z, 0, none⟩), .pointer (some ⟨x, 0, none⟩), .pointer (some ⟨y, 0, none⟩)] w fun e w' => e = .returned (.tuple #[]) ∧ Nm w' z ((n - m) % P) ∧ Chg w w' [z] := by
  obtain ⟨c0, c1, c2, c3, c4, hz⟩ := hz
  obtain ⟨a0, a1, a2, a3, a4, hx, ⟨la0, la1, la2, la3, la4⟩, hvx⟩ := hx
  obtain ⟨b0, b1, b2, b3, b4, hy, ⟨lb0, lb1, lb2, lb3, lb4⟩, hvy⟩ := hy
  refine (sub_any z x y a0 a1 a2 a3 a4 b0 b1 b2 b3 b4 c0 c1 c2 c3 c4 w hz hx hy la0 la1 la2 la3 la4 lb0 lb1 lb2 lb3 lb4).mono ?_
  rintro e w' ⟨he, y0, y1, y2, y3, y4, hn, hg, hl, hv⟩
  exact ⟨he, ⟨y0, y1, y2, y3, y4, hn, hl, by rw [hv, Int.sub_emod, hvx, hvy]⟩, Chg.of hg⟩

/-! ### Powers -/
/-- n to the power k, modulo P. -/
def pw (n : Int) (k : Nat) : Int := n ^ k % P
theorem pw_mul (n : Int) (a b c : Nat) (h : a + b = c) : pw n a * pw n b % P = pw n c := by unfold pw; rw [← Int.mul_emod, ← Int.pow_add, h]
theorem pw_one (n : Int) : pw n 1 = n % P := by unfold pw; rw [Int.pow_succ, Int.pow_zero, Int.one_mul]
theorem pw_pw (n : Int) (a b c : Nat) (h : a * b = c) : pw (pw n a) b = pw n c := by
  unfold pw; rw [← Int.emod_emod_of_dvd ((n ^ a % P) ^ b) (Int.dvd_refl P)]
  have : ∀ (x : Int) (k : Nat), (x % P) ^ k % P = x ^ k % P := fun x k => by
    induction k with
    | zero => rw [Int.pow_zero, Int.pow_zero]
    | succ k ih => rw [Int.pow_succ, Int.mul_emod, ih, Int.emod_emod_of_dvd _ (Int.dvd_refl P), ← Int.mul_emod, ← Int.pow_succ]
  rw [this, Int.emod_emod_of_dvd _ (Int.dvd_refl P), ← Int.pow_mul, h]
end Go.Proofs.Ytialljmkkichiab
