/- Two allocations of a region that draws its order, in whatever order; a case that came in. -/
import Derived.Test.YtnopkojpgemldaaSeL
import Derived.Test.YtnopkojpgemldaaMgH
import Derived.Test.YtnopkojpgemldaaSeA
set_option linter.unusedVariables false
set_option linter.unusedSimpArgs false
set_option linter.unnecessarySimpa false
namespace Go.Proofs.Ytnopkojpgemldaa
open Go.RowKit
section
variable {P : Program} {ops : Array Oper} {Q : Exit → Act → World → Prop} {md : Region.Mode} {S : World → Prop} {B : Nat → Bool}
theorem put_comm (a : Act) (d e : Tmp) (h : d ≠ e) (x y : Value) : (a.put (some e) y).put (some d) x = (a.put (some d) x).put (some e) y := by
  unfold Act.put
  simp [Array.setIfInBounds_comm _ _ h]
theorem wanted_none {o : Oper} (h : o.guard = none) (y : Nat → Option Bool) : Region.wanted o y = true := by
  unfold Region.wanted
  rw [h]
theorem lt_two {oi oj : Oper} {fuel : Nat} {listed : Array Bool} {a : Act} {w : World} (i j : Nat) (hi : ops[i]? = some oi) (hj : ops[j]? = some oj) (hr : Region.ready md ops listed = [i, j]) (hri : Region.ready md ops (listed.setIfInBounds i true) = [j]) (hrj : Region.ready md ops (listed.setIfInBounds j true) = [i])
    (hgi : oi.guard = none) (hgj : oj.guard = none) (hne : i ≠ j) (ti tj : TypeId) (hoi : oi.op = .alloc ti) (hoj : oj.op = .alloc tj) (zi zj : Value) (hzi : (P.info? ti).bind (·.zero) = some zi) (hzj : (P.info? tj).bind (·.zero) = some zj)
    (ci cj : Array Value) (hci : zi.cells = ci) (hcj : zj.cells = cj) (di dj : Tmp) (hdi : oi.dst = some di) (hdj : oj.dst = some dj) (hd : di ≠ dj) (hS : ∀ w w', Chg w w' [] → S w → S w')
    (h : ∀ gi gj w', w.heap.size ≤ gi → w.heap.size ≤ gj → ¬ gi = gj → Blk w' gi ci ti → Blk w' gj cj tj → Chg w w' [] → wpAnyL P md ops Q S B fuel ((listed.setIfInBounds i true).setIfInBounds j true) ((a.put (some di) (.pointer (some ⟨gi, 0, none⟩))).put (some dj) (.pointer (some ⟨gj, 0, none⟩))) w') :
    wpAnyL P md ops Q S B (fuel + 1 + 1) listed a w := by
  refine ⟨fun h0 => absurd (hr ▸ h0) (by simp), fun x hx => ?_⟩
  rw [hr] at hx
  have hx' : x = i ∨ x = j := by simpa using hx
  rcases hx' with hx' | hx'
  · subst hx'
    refine wpOp_step hi (fun K hK => ?_)
    rw [if_pos (wanted_none hgi _)]
    refine wp_alloc_w ti hoi zi hzi ci hci fun g1 w1 q1 b1 k1 => hK _ _ ⟨fun _ => hS _ _ k1, fun h0 => absurd (hri ▸ h0) (by simp), fun y hy => ?_⟩
    rw [hri] at hy
    obtain rfl : y = j := by simpa using hy
    refine wpOp_step hj (fun K2 hK2 => ?_)
    rw [if_pos (wanted_none hgj _)]
    refine wp_alloc_w tj hoj zj hzj cj hcj fun g2 w2 q2 b2 k2 => hK2 _ _ ⟨fun _ => hS _ _ k2, ?_⟩
    rw [hdi, hdj]
    exact h g1 g2 w2 q1 (by have := k1.size; omega) (by have := b1.lt; omega) (b1.chg k2 (by simp)) b2 (k1.trans1 k2)
  · subst hx'
    refine wpOp_step hj (fun K hK => ?_)
    rw [if_pos (wanted_none hgj _)]
    refine wp_alloc_w tj hoj zj hzj cj hcj fun g1 w1 q1 b1 k1 => hK _ _ ⟨fun _ => hS _ _ k1, fun h0 => absurd (hrj ▸ h0) (by simp), fun y hy => ?_⟩
    rw [hrj] at hy
    obtain rfl : y = i := by simpa using hy
    refine wpOp_step hi (fun K2 hK2 => ?_)
    rw [if_pos (wanted_none hgi _)]
    refine wp_alloc_w ti hoi zi hzi ci hci fun g2 w2 q2 b2 k2 => hK2 _ _ ⟨fun _ => hS _ _ k2, ?_⟩
    rw [hdi, hdj, put_comm _ _ _ hd, Array.setIfInBounds_comm _ _ (Ne.symm hne)]
    exact h g2 g1 w2 (by have := k1.size; omega) q1 (by have := b1.lt; omega) b2 (b1.chg k2 (by simp)) (k1.trans1 k2)
end
/-- A case's cells. -/
def caC (k nn : Nat → Nat) (vO vT vX : Value) (at' : Int) (by' : Nat) : Array Value := yC 32 k ++ (yC 12 nn ++ #[vO, vT, vX, .int .i64 at', .int .u8 (by' : Int)])
section
variable (k nn : Nat → Nat) (vO vT vX : Value) (at' : Int) (by' : Nat)
theorem caC_size : (caC k nn vO vT vX at' by').size = 49 := by simp [caC, yC_size]
theorem caC_k (i : Nat) (hi : i < 32) : (caC k nn vO vT vX at' by')[i]? = some (.int .u8 (k i)) := by
  unfold caC; rw [Array.getElem?_append_left (by rw [yC_size]; exact hi), yC_get _ _ _ hi]
theorem caC_n (i : Nat) (hi : i < 12) : (caC k nn vO vT vX at' by')[32 + i]? = some (.int .u8 (nn i)) := by
  unfold caC; rw [Array.getElem?_append_right (by rw [yC_size]; omega), yC_size, Array.getElem?_append_left (by rw [yC_size]; omega), Nat.add_sub_cancel_left, yC_get _ _ _ hi]
theorem caC_r (i : Nat) : (caC k nn vO vT vX at' by')[44 + i]? = #[vO, vT, vX, .int .i64 at', .int .u8 (by' : Int)][i]? := by
  unfold caC; rw [Array.getElem?_append_right (by rw [yC_size]; omega), yC_size, Array.getElem?_append_right (by rw [yC_size]; omega), yC_size, show 44 + i - 32 - 12 = i by omega]
theorem caC_44 : (caC k nn vO vT vX at' by')[44]? = some vO := caC_r k nn vO vT vX at' by' 0
theorem caC_45 : (caC k nn vO vT vX at' by')[45]? = some vT := caC_r k nn vO vT vX at' by' 1
theorem caC_46 : (caC k nn vO vT vX at' by')[46]? = some vX := caC_r k nn vO vT vX at' by' 2
theorem caC_47 : (caC k nn vO vT vX at' by')[47]? = some (.int .i64 at') := caC_r k nn vO vT vX at' by' 3
theorem caC_48 : (caC k nn vO vT vX at' by')[48]? = some (.int .u8 (by' : Int)) := caC_r k nn vO vT vX at' by' 4
end
end Go.Proofs.Ytnopkojpgemldaa
