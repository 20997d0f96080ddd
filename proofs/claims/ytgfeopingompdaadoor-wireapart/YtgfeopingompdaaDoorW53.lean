/- rimelaw10.WireSpoilt: the walk. -/
import Derived.Test.YtgfeopingompdaaDoorW50t
import Derived.Test.YtgfeopingompdaaDoorW51
import Derived.Test.YtgfeopingompdaaDoorW52
import Derived.Test.YtgfeopingompdaaDoorW30
import Derived.Test.YtgfeopingompdaaDoorMwG
set_option linter.unusedVariables false
set_option linter.unusedSimpArgs false
set_option linter.unnecessarySimpa false
namespace Go.Proofs.YtgfeopingompdaaDoor
open Go.RowKit

theorem fault_any (w0 : World) (hP : Pw w0) (g : Nat) (s : ByteArray) (a y : Nat) (hs : s.size ≤ 1000) (hs0 : s.toList ≠ s0E.toList) (ha : a ≤ 9223372036854775807) (hy : y ≤ 9223372036854775807) (w : World) (hw : Chg w0 w []) (h : Blk w g (ftC s a y) 63) :
    Calls Tryd.prog 12 #[.iface 60 (.pointer (some ⟨g, 0, none⟩)), .agg (ftC s a y)] w fun e w' => e = .returned (.bool true) ∧ Chg w w' [] :=
  fault_g w0 g s (dgS a) (dgS y) a y hs (itg hP a ha) (itg hP y hy) (fun W => dec_g a a (Nat.le_refl _) ha W) (fun W => None_f s a y hs0 W) w hw h
theorem EnP.ne {m : Ms} {N : Nat} {d : Nat → Int} {M : Nat} {s : ByteArray} {a y : Nat} (h : EnP m N d M s a y) : s.toList ≠ s0E.toList := by
  rcases h with ⟨_, rfl, _⟩ | ⟨_, _, rfl, _⟩ | ⟨_, _, _, rfl, _⟩ | ⟨_, _, _, ⟨_, _, rfl, _⟩ | ⟨_, ⟨_, rfl, _⟩ | ⟨_, _, _, _, rfl, _⟩ | ⟨_, _, _, rfl, _⟩⟩ | ⟨_, _, rfl, _⟩⟩ <;> exact ne_s0 (List.cons_ne_nil _ _)
theorem EnP.no {m : Ms} {N : Nat} {d : Nat → Int} {M : Nat} {s : ByteArray} {a y : Nat} (h : EnP m N d M s a y) : ¬ EnG m N d M := by
  rintro ⟨g1, g2, g3, g4, g5, g6⟩
  rcases h with ⟨h, _⟩ | ⟨_, h, _⟩ | ⟨_, _, h, _⟩ | ⟨_, _, _, ⟨k, h, _⟩ | ⟨k, ⟨h, _⟩ | ⟨_, h1, h, _⟩ | ⟨_, _, h, _⟩⟩ | ⟨k, h, _⟩⟩
  · exact h g1
  · exact h g2
  · exact h g3
  · exact h (g4 k)
  · have := (g5 k).1; omega
  · exact h ((g5 k).2.1 _ h1)
  · have := (g5 k).2.2; omega
  · exact h (g6 k)
theorem CrP.ne {m : Ms} {N : Nat} {d : Nat → Int} {M : Nat} {s : ByteArray} {a y : Nat} (h : CrP m N d M s a y) (hn : ¬ EnG m N d M) : s.toList ≠ s0E.toList := by
  rcases h with ⟨h, _⟩ | h
  · exact absurd h hn
  · exact h.ne
theorem CrP.eq {m : Ms} {N : Nat} {d : Nat → Int} {M : Nat} {s : ByteArray} {a y : Nat} (h : CrP m N d M s a y) (hn : EnG m N d M) : s = s0E := by
  rcases h with ⟨_, h, _⟩ | h
  · exact h
  · exact absurd hn h.no
theorem i64_and3 (n : Int) : bits .and .i64 n 3 = n % 4 := by
  have h3 : (BitVec.ofInt 64 3).toNat = 2 ^ 2 - 1 := by decide
  have key : (BitVec.ofInt 64 n &&& BitVec.ofInt 64 3).toNat = (n % ((2 ^ 64 : Nat) : Int)).toNat % 2 ^ 2 := by
    rw [BitVec.toNat_and, BitVec.toNat_ofInt, h3, Nat.and_two_pow_sub_one_eq_mod]
  show IntKind.i64.wrap ((BitVec.ofInt 64 n &&& BitVec.ofInt 64 3).toNat : Nat) = n % 4
  rw [key, IntKind.wrap_i64]
  omega
/-- The first n cells are the bytes f. -/
def LoW (C : Array Value) (n : Nat) (f : Nat → Nat) : Prop := ∀ i, i < n → C[i]? = some (.int .u8 ((f i : Nat) : Int))
theorem LoW.set {C : Array Value} {n : Nat} {f : Nat → Nat} (h : LoW C n f) (j x : Nat) : LoW (C.setIfInBounds j (.int .u8 ((x : Nat) : Int))) n (tuF f j x) := fun i hi => by
  rw [Array.getElem?_setIfInBounds]
  unfold tuF
  by_cases hj : j = i
  · subst hj
    have hs : j < C.size := by
      by_cases hs : j < C.size
      · exact hs
      · have := h j hi
        rw [Array.getElem?_eq_none (by omega)] at this
        cases this
    rw [if_pos rfl, if_pos hs, if_pos rfl]
  · rw [if_neg hj, if_neg (fun e => hj e.symm)]
    exact h i hi
theorem Own.loW {w : World} {base : Nat} {v : Value} {n : Nat} {f : Nat → Nat} (h : Own w base v n f) (h0 : 0 < n) : ∃ g c C, v = .slice (some ⟨g, 0, none⟩) n c ∧ base ≤ g ∧ n ≤ c ∧ c ≤ 9223372036854775807 ∧ Blk w g C 5 ∧ LoW C n f := by
  obtain ⟨⟨_, h1⟩, _⟩ := h
  rcases h1 with ⟨_, h1⟩ | ⟨g, cap, cur, rfl, hg, hh, hc, hm, hs, ht⟩
  · omega
  · refine ⟨g, cap, cur, rfl, hg, hc, by simpa [maxLen] using hm, hh, fun i hi => ?_⟩
    have e := congrArg (fun l => l[i]?) ht
    simp only [Nat.mul_one] at e
    rw [List.getElem?_take_of_lt hi, yL_get _ _ _ hi, Array.getElem?_toList] at e
    exact e
theorem LoW.bs {w : World} {g : Nat} {C : Array Value} {n : Nat} {f : Nat → Nat} (h : LoW C n f) (hb : Blk w g C 5) (hf : ∀ i, i < n → f i < 256) : Bs w g 0 n f :=
  ⟨hb.lt, hf, fun i hi => by rw [hb.cell, Nat.zero_add]; exact h _ hi⟩
theorem Same0 (w : World) : Calls Tryd.prog 9 #[.agg (msC (ms0 0)), .agg (msC (ms0 0))] w fun e w' => e = .returned (.bool true) ∧ Chg w w' [] :=
  SameMsg_t (ms0 0) 0 (fun _ => 0) (fun _ _ => 0) (fun _ _ => 0) 0 (fun _ => 0) (ms0 0) 0 (fun _ => 0) (fun _ _ => 0) (fun _ _ => 0) 0 (fun _ => 0) w
    ⟨⟨cF_ok 0 _ _ _, Or.inl ⟨rfl, rfl⟩⟩, fun i hi => by omega⟩ (Sl.zb (Or.inl ⟨rfl, rfl⟩)) ⟨⟨cF_ok 0 _ _ _, Or.inl ⟨rfl, rfl⟩⟩, fun i hi => by omega⟩ (Sl.zb (Or.inl ⟨rfl, rfl⟩)) (by kernel_rfl)
theorem builtM0 : Tryd.prog.built 35 [] = some (msC (ms0 0)) := by kernel_rfl
theorem sSum_ne : sSum.toList ≠ s0E.toList := ne_s0 (List.cons_ne_nil _ _)
end Go.Proofs.YtgfeopingompdaaDoor
