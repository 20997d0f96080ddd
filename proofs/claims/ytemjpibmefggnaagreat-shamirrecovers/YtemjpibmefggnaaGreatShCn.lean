/- rimelaw07.canon. -/
import Derived.Test.YtemjpibmefggnaaGreatMgO
import Derived.Test.YtemjpibmefggnaaGreatMgK
set_option linter.unusedVariables false
set_option linter.unusedSimpArgs false
set_option linter.unnecessarySimpa false
namespace Go.Proofs.YtemjpibmefggnaaGreat
open Go.RowKit N

/-- The first k, reduced. -/
def cnL (f : Nat → Nat) (k : Nat) : List Int := (List.range k).map fun j => ad ((f j : Nat) : Int) 0
theorem cnL_len (f : Nat → Nat) (k : Nat) : (cnL f k).length = k := by simp [cnL]
theorem cnL_s (f : Nat → Nat) (k : Nat) : cnL f (k + 1) = cnL f k ++ [ad ((f k : Nat) : Int) 0] := by simp [cnL, List.range_succ]
theorem cnL_get (f : Nat → Nat) (k j : Nat) (h : j < k) : (cnL f k).getD j 0 = ad ((f j : Nat) : Int) 0 := by simp [cnL, List.getD_eq_getElem?_getD, h]
theorem append_os {w : World} {ops : Array Oper} {rest : List Oper} {o : Oper} {a : Act} {Q : Exit → Act → World → Prop} (hgd : o.guard = none) (so xo : Operand)
    (ho : o.op = .call { callee := .builtin .append, args := #[so, xo], argTypes := #[22, 22] })
    (base : Nat) (v : Value) (gx : Nat) (l : List Int) (x : Int) (hs : a.eval so = v) (hxe : a.eval xo = .slice (some ⟨gx, 0, none⟩) 1 1) (hown : Os w base v l) (hx : Blk w gx (feC x) 24) (hl : l.length ≤ 2000000) (hbase : base ≤ w.heap.size)
    (h : ∀ v' w', Os w' base v' (l ++ [x]) → Chg w w' (ob v) → wpList Tryz.prog ops Q rest (a.put o.dst v') w') : wpList Tryz.prog ops Q (o :: rest) a w :=
  wpList_plain hgd fun _ hK => wp_append_os so xo ho base v gx l x hs hxe hown hx hl hbase fun v' w' q1 q2 => hK _ _ (h v' w' q1 q2)
end Go.Proofs.YtemjpibmefggnaaGreat
