/- wire: a frame whose sum alone was turned. -/
import Derived.Test.YtgfeopingompdaaDoorMwF
set_option linter.unusedVariables false
set_option linter.unusedSimpArgs false
set_option linter.unnecessarySimpa false
namespace Go.Proofs.YtgfeopingompdaaDoor
open Go.RowKit

/-- A frame's bytes, one of which is turned. -/
def tuF (G : Nat → Nat) (i x : Nat) : Nat → Nat := fun j => if j = i then x else G j
theorem tuF_ne (G : Nat → Nat) (i x j : Nat) (h : j ≠ i) : tuF G i x j = G j := if_neg h
theorem tuF_at (G : Nat → Nat) (i x : Nat) : tuF G i x i = x := if_pos rfl
theorem tu_nm (k n : Nat) (F : Nat → Nat) (hn : n < 4294967296) (i x : Nat) (hi : 10 + n ≤ i) : nm (tuF (frB k n F) i x) 6 4 = n := by
  refine Eq.trans ?_ (frB_len k n F hn)
  show ((((0 * 256 + tuF (frB k n F) i x 6) * 256 + tuF (frB k n F) i x 7) * 256 + tuF (frB k n F) i x 8) * 256 + tuF (frB k n F) i x 9) = ((((0 * 256 + frB k n F 6) * 256 + frB k n F 7) * 256 + frB k n F 8) * 256 + frB k n F 9)
  rw [tuF_ne _ _ _ 6 (by omega), tuF_ne _ _ _ 7 (by omega), tuF_ne _ _ _ 8 (by omega), tuF_ne _ _ _ 9 (by omega)]
theorem tu_HdG (k n N : Nat) (F : Nat → Nat) (hk : 1 ≤ k ∧ k ≤ 6) (hn : n ≤ 1065189) (hN : 10 ≤ N) (i x : Nat) (hi : 10 + n ≤ i) : HdG N (tuF (frB k n F) i x) := by
  obtain ⟨g1, g2, g3, g4, g5⟩ := frB_HdG k n N F hk hn hN
  refine ⟨fun j hj => by rw [tuF_ne _ _ _ _ (by omega)]; exact g1 j hj, by rw [tuF_ne _ _ _ _ (by omega)]; exact g2, by rw [tuF_ne _ _ _ _ (by omega)]; exact g3, g4, ?_⟩
  rw [tu_nm k n F (by omega) i x hi]
  exact hn
theorem tu_eqn (k n : Nat) (F : Nat → Nat) (hn : n < 4294967296) (i x : Nat) (hi : 10 + n ≤ i) (hi2 : i < 14 + n) (hx : x ≠ frB k n F i) :
    eqnW 4 (sha (tuF (frB k n F) i x) (10 + n)) (fun j => tuF (frB k n F) i x (10 + n + j)) = false := by
  refine Bool.eq_false_iff.2 fun q => hx ?_
  have q2 := (eqnW_iff _ _ _).1 q (i - (10 + n)) (by omega)
  have q2 : sha (tuF (frB k n F) i x) (10 + n) (i - (10 + n)) = tuF (frB k n F) i x (10 + n + (i - (10 + n))) := q2
  rw [show 10 + n + (i - (10 + n)) = i by omega, tuF_at, sha_congr (g := frB k n F) (fun j hj => tuF_ne _ _ _ _ (by omega))] at q2
  rw [← q2, ← frB_sum k n F (i - (10 + n)), show 10 + n + (i - (10 + n)) = i by omega]
theorem Decode_tu (g o c : Nat) (k n : Nat) (F : Nat → Nat) (hk : 1 ≤ k ∧ k ≤ 6) (hn : n ≤ 1065189) (i x : Nat) (hi : 10 + n ≤ i) (hi2 : i < 14 + n) (hx : x ≠ frB k n F i) (hc : 14 + n ≤ c) (hc2 : c ≤ 9223372036854775807) (w : World) (hG : Gl w)
    (hB : Bs w g o (14 + n) (tuF (frB k n F) i x)) :
    Calls Tryd.prog 11 #[.slice (some ⟨g, o, none⟩) (14 + n) c] w fun e w' => ∃ fv, e = .returned (.tuple #[.agg (msC (ms0 0)), fv]) ∧ Ft w' w.heap.size fv sSum ((10 + n : Nat) : Int) ((103 : Nat) : Int) ∧ Chg w w' [] := by
  have hd := tu_HdG k n (14 + n) F hk hn (by omega) i x hi
  have hm := tu_nm k n F (by omega) i x hi
  have he := tu_eqn k n F (by omega) i x hi hi2 hx
  refine (Decode_s g o _ c _ hc hc2 w hG hB).mono ?_
  rintro e w' ⟨⟨s, a, y, h1, fv, h2, h3⟩ | ⟨B, M', _, _, h2⟩, kk⟩
  · refine ⟨fv, h2, ?_, kk⟩
    rcases h1 with h1 | ⟨_, h1⟩
    · exact absurd h1 (hd.noP)
    · rw [hm] at h1
      rcases h1 with ⟨q, _⟩ | ⟨q, _⟩ | ⟨_, ⟨_, rfl, rfl, rfl⟩ | ⟨q, _⟩⟩
      · omega
      · omega
      · exact h3
      · rw [he] at q; cases q
  · exfalso
    have q := h2.2.2.1
    rw [hm, he] at q
    cases q
end Go.Proofs.YtgfeopingompdaaDoor
