/- Joined: W52, W53. -/
import Derived.Test.YtgjclegpnbjlkaaGreatDoorMwF
import Derived.Test.YtgjclegpnbjlkaaGreatDoorW50t
import Derived.Test.YtgjclegpnbjlkaaGreatDoorW51
import Derived.Test.YtgjclegpnbjlkaaGreatDoorW30
import Derived.Test.YtgjclegpnbjlkaaGreatDoorMwG
/- wire: a frame whose sum alone was turned. -/
set_option linter.unusedVariables false
set_option linter.unusedSimpArgs false
set_option linter.unnecessarySimpa false
namespace Go.Proofs.YtgjclegpnbjlkaaGreatDoor
open Go.RowKit

/-- A frame's bytes, one of which is turned. -/
def tuF (G : Nat → Nat) (i x : Nat) : Nat → Nat := fun j => if j = i then x else G j
theorem tuF_ne (G : Nat → Nat) (i x j : Nat) (h : j ≠ i) : tuF G i x j = G j := if_neg h
theorem tuF_at (G : Nat → Nat) (i x : Nat) : tuF G i x i = x := if_pos rfl
theorem tu_nm (k n : Nat) (F : Nat → Nat) (hn : n < 4294967296) (i x : Nat) (hi : 10 + n ≤ i) : nm (tuF (frB k n F) i x) 6 4 = n := by
  refine Eq.trans ?_ (frB_len k n F hn)
  show ((((0 * 256 + tuF (frB k n F) i x 6) * 256 + tuF (frB k n F) i x 7) * 256 + tuF (frB k n F) i x 8) * 256 + tuF (frB k n F) i x 9) = ((((0 * 256 + frB k n F 6) * 256 + frB k n F 7) * 256 + frB k n F 8) * 256 + frB k n F 9)
  rw [tuF_ne _ _ _ 6 (by omega), tuF_ne _ _ _ 7 (by omega), tuF_ne _ _ _ 8 (by omega), tuF_ne _ _ _ 9 (by omega)]
theorem tu_HdG (k n N : Nat) (F : Nat → Nat) (hk : 1 ≤ k ∧ k ≤ 6) (hn : n ≤ 1065189) (hN : 10 ≤ N) (i x : Nat) (hi : 10 + n ≤ i) : HdG N (tuF (frB k n F) i x) := by
  obtain ⟨g1, g2, g3, g4, g5⟩ := frB_HdG k n N F hk hn hN
  refine ⟨fun j hj => by rw [tuF_ne _ _ _ _ (by omega)]; exact g1 j hj, by rw [tuF_ne _ _ _ _ (by omega)]; exact g2, by rw [tuF_ne _ _ _ _ (by omega)]; exact g3, g4, ?_⟩
  rw [tu_nm k n F (by omega) i x hi]
  exact hn
theorem tu_eqn (k n : Nat) (F : Nat → Nat) (hn : n < 4294967296) (i x : Nat) (hi : 10 + n ≤ i) (hi2 : i < 14 + n) (hx : x ≠ frB k n F i) :
    eqnW 4 (sha (tuF (frB k n F) i x) (10 + n)) (fun j => tuF (frB k n F) i x (10 + n + j)) = false := by
  refine Bool.eq_false_iff.2 fun q => hx ?_
  have q2 := (eqnW_iff _ _ _).1 q (i - (10 + n)) (by omega)
  have q2 : sha (tuF (frB k n F) i x) (10 + n) (i - (10 + n)) = tuF (frB k n F) i x (10 + n + (i - (10 + n))) := q2
  rw [show 10 + n + (i - (10 + n)) = i by omega, tuF_at, sha_congr (g := frB k n F) (fun j hj => tuF_ne _ _ _ _ (by omega))] at q2
  rw [← q2, ← frB_sum k n F (i - (10 + n)), show 10 + n + (i - (10 + n)) = i by omega]
theorem Decode_tu (g o c : Nat) (k n : Nat) (F : Nat → Nat) (hk : 1 ≤ k ∧ k ≤ 6) (hn : n ≤ 1065189) (i x : Nat) (hi : 10 + n ≤ i) (hi2 : i < 14 + n) (hx : x ≠ frB k n F i) (hc : 14 + n ≤ c) (hc2 : c ≤ 9223372036854775807) (w : World) (hG : Gl w)
    (hB : Bs w g o (14 + n) (tuF (frB k n F) i x)) :
    Calls Tryz.prog 15 #[.slice (some ⟨g, o, none⟩) (14 + n) c] w fun e w' => ∃ fv, e = .returned (.tuple #[.agg (msC (ms0 0)), fv]) ∧ Ft w' w.heap.size fv sSum ((10 + n : Nat) : Int) ((103 : Nat) : Int) ∧ Chg w w' [] := by
  have hd := tu_HdG k n (14 + n) F hk hn (by omega) i x hi
  have hm := tu_nm k n F (by omega) i x hi
  have he := tu_eqn k n F (by omega) i x hi hi2 hx
  refine (Decode_s g o _ c _ hc hc2 w hG hB).mono ?_
  rintro e w' ⟨⟨s, a, y, h1, fv, h2, h3⟩ | ⟨B, M', _, _, h2⟩, kk⟩
  · refine ⟨fv, h2, ?_, kk⟩
    rcases h1 with h1 | ⟨_, h1⟩
    · exact absurd h1 (hd.noP)
    · rw [hm] at h1
      rcases h1 with ⟨q, _⟩ | ⟨q, _⟩ | ⟨_, ⟨_, rfl, rfl, rfl⟩ | ⟨q, _⟩⟩
      · omega
      · omega
      · exact h3
      · rw [he] at q; cases q
  · exfalso
    have q := h2.2.2.1
    rw [hm, he] at q
    cases q
end Go.Proofs.YtgjclegpnbjlkaaGreatDoor

/- rimelaw10.WireSpoilt: the walk. -/
namespace Go.Proofs.YtgjclegpnbjlkaaGreatDoor
open Go.RowKit

theorem fault_any (w0 : World) (hP : Pw w0) (g : Nat) (s : ByteArray) (a y : Nat) (hs : s.size ≤ 1000) (hs0 : s.toList ≠ s0E.toList) (ha : a ≤ 9223372036854775807) (hy : y ≤ 9223372036854775807) (w : World) (hw : Chg w0 w []) (h : Blk w g (ftC s a y) 109) :
    Calls Tryz.prog 11 #[.iface 106 (.pointer (some ⟨g, 0, none⟩)), .agg (ftC s a y)] w fun e w' => e = .returned (.bool true) ∧ Chg w w' [] :=
  fault_g w0 g s (dgS a) (dgS y) a y hs (itg hP a ha) (itg hP y hy) (fun W => dec_g a a (Nat.le_refl _) ha W) (fun W => None_f s a y hs0 W) w hw h
theorem EnP.ne {m : Ms} {N : Nat} {d : Nat → Int} {M : Nat} {s : ByteArray} {a y : Nat} (h : EnP m N d M s a y) : s.toList ≠ s0E.toList := by
  rcases h with ⟨_, rfl, _⟩ | ⟨_, _, rfl, _⟩ | ⟨_, _, _, rfl, _⟩ | ⟨_, _, _, ⟨_, _, rfl, _⟩ | ⟨_, ⟨_, rfl, _⟩ | ⟨_, _, _, _, rfl, _⟩ | ⟨_, _, _, rfl, _⟩⟩ | ⟨_, _, rfl, _⟩⟩ <;> exact ne_s0 (List.cons_ne_nil _ _)
theorem EnP.no {m : Ms} {N : Nat} {d : Nat → Int} {M : Nat} {s : ByteArray} {a y : Nat} (h : EnP m N d M s a y) : ¬ EnG m N d M := by
  rintro ⟨g1, g2, g3, g4, g5, g6⟩
  rcases h with ⟨h, _⟩ | ⟨_, h, _⟩ | ⟨_, _, h, _⟩ | ⟨_, _, _, ⟨k, h, _⟩ | ⟨k, ⟨h, _⟩ | ⟨_, h1, h, _⟩ | ⟨_, _, h, _⟩⟩ | ⟨k, h, _⟩⟩
  · exact h g1
  · exact h g2
  · exact h g3
  · exact h (g4 k)
  · have := (g5 k).1; omega
  · exact h ((g5 k).2.1 _ h1)
  · have := (g5 k).2.2; omega
  · exact h (g6 k)
theorem CrP.ne {m : Ms} {N : Nat} {d : Nat → Int} {M : Nat} {s : ByteArray} {a y : Nat} (h : CrP m N d M s a y) (hn : ¬ EnG m N d M) : s.toList ≠ s0E.toList := by
  rcases h with ⟨h, _⟩ | h
  · exact absurd h hn
  · exact h.ne
theorem CrP.eq {m : Ms} {N : Nat} {d : Nat → Int} {M : Nat} {s : ByteArray} {a y : Nat} (h : CrP m N d M s a y) (hn : EnG m N d M) : s = s0E := by
  rcases h with ⟨_, h, _⟩ | h
  · exact h
  · exact absurd hn h.no
theorem i64_and3 (n : Int) : bits .and .i64 n 3 = n % 4 := by
  have h3 : (BitVec.ofInt 64 3).toNat = 2 ^ 2 - 1 := by decide
  have key : (BitVec.ofInt 64 n &&& BitVec.ofInt 64 3).toNat = (n % ((2 ^ 64 : Nat) : Int)).toNat % 2 ^ 2 := by
    rw [BitVec.toNat_and, BitVec.toNat_ofInt, h3, Nat.and_two_pow_sub_one_eq_mod]
  show IntKind.i64.wrap ((BitVec.ofInt 64 n &&& BitVec.ofInt 64 3).toNat : Nat) = n % 4
  rw [key, IntKind.wrap_i64]
  omega
/-- The first n cells are the bytes f. -/
def LoW (C : Array Value) (n : Nat) (f : Nat → Nat) : Prop := ∀ i, i < n → C[i]? = some (.int .u8 ((f i : Nat) : Int))
theorem LoW.set {C : Array Value} {n : Nat} {f : Nat → Nat} (h : LoW C n f) (j x : Nat) : LoW (C.setIfInBounds j (.int .u8 ((x : Nat) : Int))) n (tuF f j x) := fun i hi => by
  rw [Array.getElem?_setIfInBounds]
  unfold tuF
  by_cases hj : j = i
  · subst hj
    have hs : j < C.size := by
      by_cases hs : j < C.size
      · exact hs
      · have := h j hi
        rw [Array.getElem?_eq_none (by omega)] at this
        cases this
    rw [if_pos rfl, if_pos hs, if_pos rfl]
  · rw [if_neg hj, if_neg (fun e => hj e.symm)]
    exact h i hi
theorem Own.loW {w : World} {base : Nat} {v : Value} {n : Nat} {f : Nat → Nat} (h : Own w base v n f) (h0 : 0 < n) : ∃ g c C, v = .slice (some ⟨g, 0, none⟩) n c ∧ base ≤ g ∧ n ≤ c ∧ c ≤ 9223372036854775807 ∧ Blk w g C 5 ∧ LoW C n f := by
  obtain ⟨⟨_, h1⟩, _⟩ := h
  rcases h1 with ⟨_, h1⟩ | ⟨g, cap, cur, rfl, hg, hh, hc, hm, hs, ht⟩
  · omega
  · refine ⟨g, cap, cur, rfl, hg, hc, by simpa [maxLen] using hm, hh, fun i hi => ?_⟩
    have e := congrArg (fun l => l[i]?) ht
    simp only [Nat.mul_one] at e
    rw [List.getElem?_take_of_lt hi, yL_get _ _ _ hi, Array.getElem?_toList] at e
    exact e
theorem LoW.bs {w : World} {g : Nat} {C : Array Value} {n : Nat} {f : Nat → Nat} (h : LoW C n f) (hb : Blk w g C 5) (hf : ∀ i, i < n → f i < 256) : Bs w g 0 n f :=
  ⟨hb.lt, hf, fun i hi => by rw [hb.cell, Nat.zero_add]; exact h _ hi⟩
theorem Same0 (w : World) : Calls Tryz.prog 19 #[.agg (msC (ms0 0)), .agg (msC (ms0 0))] w fun e w' => e = .returned (.bool true) ∧ Chg w w' [] :=
  SameMsg_t (ms0 0) 0 (fun _ => 0) (fun _ _ => 0) (fun _ _ => 0) 0 (fun _ => 0) (ms0 0) 0 (fun _ => 0) (fun _ _ => 0) (fun _ _ => 0) 0 (fun _ => 0) w
    ⟨⟨cF_ok 0 _ _ _, Or.inl ⟨rfl, rfl⟩⟩, fun i hi => by omega⟩ (Sl.zb (Or.inl ⟨rfl, rfl⟩)) ⟨⟨cF_ok 0 _ _ _, Or.inl ⟨rfl, rfl⟩⟩, fun i hi => by omega⟩ (Sl.zb (Or.inl ⟨rfl, rfl⟩)) (by kernel_rfl)
theorem builtM0 : Tryz.prog.built 35 [] = some (msC (ms0 0)) := by kernel_rfl
theorem sSum_ne : sSum.toList ≠ s0E.toList := ne_s0 (List.cons_ne_nil _ _)
end Go.Proofs.YtgjclegpnbjlkaaGreatDoor
