/- Two operations of a region that draws its order, in whatever order. Of no package. -/
import Derived.Test.YtachilkhbfpahaaSeM
set_option linter.unusedVariables false
set_option linter.unusedSimpArgs false
set_option linter.unnecessarySimpa false
namespace Go.Proofs.Ytachilkhbfpahaa
open Go.RowKit

section
variable {P : Program} {ops : Array Oper} {Q : Exit → Act → World → Prop} {md : Region.Mode} {S : World → Prop} {B : Nat → Bool}
/-- Two operations of a region that draws its order, in whatever order; what each leaves, said by the caller. -/
theorem lt_cc {oi oj : Oper} {fuel : Nat} {listed : Array Bool} {a : Act} {w : World} (i j : Nat) (hi : ops[i]? = some oi) (hj : ops[j]? = some oj) (hr : Region.ready md ops listed = [i, j]) (hri : Region.ready md ops (listed.setIfInBounds i true) = [j]) (hrj : Region.ready md ops (listed.setIfInBounds j true) = [i])
    (hgi : oi.guard = none) (hgj : oj.guard = none) (hne : i ≠ j) (di dj : Tmp) (hd : di ≠ dj)
    (A C : Value → World → Prop) (AC : Value → Value → World → Prop)
    (h1 : ∀ K, Hid (∀ v w', A v w' → K (a.put (some di) v) w') → Oper.wp P oi a w K Q)
    (h2 : ∀ v w K, A v w → Hid (∀ u w', AC v u w' → K ((a.put (some di) v).put (some dj) u) w') → Oper.wp P oj (a.put (some di) v) w K Q)
    (h3 : ∀ K, Hid (∀ u w', C u w' → K (a.put (some dj) u) w') → Oper.wp P oj a w K Q)
    (h4 : ∀ u w K, C u w → Hid (∀ v w', AC v u w' → K ((a.put (some dj) u).put (some di) v) w') → Oper.wp P oi (a.put (some dj) u) w K Q)
    (hS1 : ∀ v w, A v w → S w) (hS2 : ∀ u w, C u w → S w) (hS3 : ∀ v u w, AC v u w → S w)
    (h : ∀ v u w', AC v u w' → wpAnyL P md ops Q S B fuel ((listed.setIfInBounds i true).setIfInBounds j true) ((a.put (some di) v).put (some dj) u) w') :
    wpAnyL P md ops Q S B (fuel + 1 + 1) listed a w := by
  refine ⟨fun h0 => absurd (hr ▸ h0) (by simp), fun x hx => ?_⟩
  rw [hr] at hx
  have hx' : x = i ∨ x = j := by simpa using hx
  rcases hx' with hx' | hx'
  · subst hx'
    refine wpOp_step hi (fun K hK => ?_)
    rw [if_pos (wanted_none hgi _)]
    refine h1 K fun v w1 q1 => hK _ _ ⟨fun _ _ => hS1 _ _ q1, fun h0 => absurd (hri ▸ h0) (by simp), fun y hy => ?_⟩
    rw [hri] at hy
    obtain rfl : y = j := by simpa using hy
    refine wpOp_step hj (fun K2 hK2 => ?_)
    rw [if_pos (wanted_none hgj _)]
    exact h2 v w1 K2 q1 fun u w2 q2 => hK2 _ _ ⟨fun _ _ => hS3 _ _ _ q2, h v u w2 q2⟩
  · subst hx'
    refine wpOp_step hj (fun K hK => ?_)
    rw [if_pos (wanted_none hgj _)]
    refine h3 K fun u w1 q1 => hK _ _ ⟨fun _ _ => hS2 _ _ q1, fun h0 => absurd (hrj ▸ h0) (by simp), fun y hy => ?_⟩
    rw [hrj] at hy
    obtain rfl : y = i := by simpa using hy
    refine wpOp_step hi (fun K2 hK2 => ?_)
    rw [if_pos (wanted_none hgi _)]
    refine h4 u w1 K2 q1 fun v w2 q2 => hK2 _ _ ⟨fun _ _ => hS3 _ _ _ q2, ?_⟩
    rw [put_comm _ _ _ hd, Array.setIfInBounds_comm _ _ (Ne.symm hne)]
    exact h v u w2 q2
end
end Go.Proofs.Ytachilkhbfpahaa
