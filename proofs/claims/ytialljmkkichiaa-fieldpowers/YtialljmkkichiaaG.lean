/- The texts of layer 1 in the place of G: what tmpl2/G says besides. -/
import Derived.Test.YtialljmkkichiaaRNil
import Derived.Test.YtialljmkkichiaaOpen
import Derived.Test.YtialljmkkichiaaMath
import Derived.ChangeKeysEq
import Derived.Deep.RegionHeld3
set_option linter.unusedVariables false
set_option linter.unusedSimpArgs false
set_option linter.unnecessarySimpa false
namespace Go.Proofs.Ytialljmkkichiaa
open Go.RowKit N

theorem Chg.setIn {a b : World} {l : List Nat} {k : Nat} (h : Chg a b l) (hk : k ∈ l) (i : Nat) (v : Value) : Chg a (b.setCell ⟨k, i, none⟩ v) l :=
  h.trans (Chg.of (gb_set (gb_refl b _) i v)) (fun j hj => by simp at hj; subst hj; exact Or.inl hk)
theorem Chg.setNew {a b : World} {l : List Nat} {k : Nat} (h : Chg a b l) (hk : a.heap.size ≤ k) (i : Nat) (v : Value) : Chg a (b.setCell ⟨k, i, none⟩ v) l :=
  h.new (Chg.of (gb_set (gb_refl b _) i v)) hk
theorem Chg.wide {a b : World} {l : List Nat} (h : Chg a b []) : Chg a b l := ⟨h.os, h.tape, h.output, h.size, fun k hk _ => h.block k hk (by simp)⟩
theorem Chg.incl {a b : World} {l m : List Nat} (h : Chg a b l) (hi : ∀ i, i ∈ l → i ∈ m) : Chg a b m := ⟨h.os, h.tape, h.output, h.size, fun k hk hl => h.block k hk (fun hx => hl (hi k hx))⟩
end Go.Proofs.Ytialljmkkichiaa
