/- Bytes of the call's own, one of which is turned in place. -/
import Derived.Test.YtnopkojpgemldaaSeAp
set_option linter.unusedVariables false
set_option linter.unusedSimpArgs false
set_option linter.unnecessarySimpa false
namespace Go.Proofs.Ytnopkojpgemldaa
open Go.RowKit

/-- The first n cells are the bytes f. -/
def Lo (C : Array Value) (n : Nat) (f : Nat → Nat) : Prop := ∀ i, i < n → C[i]? = some (.int .u8 ((f i : Nat) : Int))
theorem Lo.set {C : Array Value} {n : Nat} {f : Nat → Nat} (h : Lo C n f) (j x : Nat) : Lo (C.setIfInBounds j (.int .u8 ((x : Nat) : Int))) n (up f j x) := fun i hi => by
  rw [Array.getElem?_setIfInBounds]
  unfold up
  by_cases hj : j = i
  · subst hj
    have hs : j < C.size := by
      by_cases hs : j < C.size
      · exact hs
      · have := h j hi
        rw [Array.getElem?_eq_none (by omega)] at this
        cases this
    rw [if_pos rfl, if_pos hs, if_pos rfl]
  · rw [if_neg hj, if_neg (fun e => hj e.symm)]
    exact h i hi
theorem Own.lo {w : World} {base : Nat} {v : Value} {n : Nat} {f : Nat → Nat} (h : Own w base v n f) (h0 : 0 < n) : ∃ g c C, v = .slice (some ⟨g, 0, none⟩) n c ∧ base ≤ g ∧ n ≤ c ∧ c ≤ 9223372036854775807 ∧ Blk w g C 5 ∧ Lo C n f := by
  obtain ⟨⟨_, h1⟩, _⟩ := h
  rcases h1 with ⟨_, h1⟩ | ⟨g, cap, cur, rfl, hg, hh, hc, hm, hs, ht⟩
  · omega
  · refine ⟨g, cap, cur, rfl, hg, hc, by simpa [maxLen] using hm, hh, fun i hi => ?_⟩
    have e := congrArg (fun l => l[i]?) ht
    simp only [Nat.mul_one] at e
    rw [List.getElem?_take_of_lt hi, yL_get _ _ _ hi, Array.getElem?_toList] at e
    exact e
theorem Lo.sz {w : World} {g : Nat} {C : Array Value} {n : Nat} {f : Nat → Nat} (h : Lo C n f) (hb : Blk w g C 5) (hf : ∀ i, i < n → f i < 256) (o m c : Nat) (ho : o + m ≤ n) (hc : m ≤ c) (hc2 : c ≤ 9223372036854775807) : Sz w (.slice (some ⟨g, o, none⟩) m c) m (fun i => f (o + i)) :=
  ⟨_, c, rfl, hc, hc2, fun _ => ⟨g, o, rfl, hb.lt, fun i hi => hf _ (by omega), fun i hi => by rw [hb.cell]; exact h _ (by omega)⟩⟩
theorem Lo.bd {C : Array Value} {n : Nat} {f : Nat → Nat} (hf : ∀ i, i < n → f i < 256) (j x : Nat) (hx : x < 256) : ∀ i, i < n → up f j x i < 256 := fun i hi => by
  unfold up; split
  · exact hx
  · exact hf i hi
end Go.Proofs.Ytnopkojpgemldaa
