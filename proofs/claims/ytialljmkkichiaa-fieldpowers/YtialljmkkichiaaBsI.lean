/- Bytes in memory (layer 1's Bs lies in Rdc). -/
import Derived.Test.YtialljmkkichiaaG
set_option linter.unusedVariables false
set_option linter.unusedSimpArgs false
set_option linter.unnecessarySimpa false
namespace Go.Proofs.Ytialljmkkichiaa
open Go.RowKit

/-- A part of them. -/
theorem Bs.sub {w : World} {g o len : Nat} {b : Nat → Nat} (h : Bs w g o len b) (i n : Nat) (hi : i + n ≤ len) : Bs w g (o + i) n (fun j => b (i + j)) :=
  ⟨h.lt, fun j hj => h.bd _ (by omega), fun j hj => by rw [Nat.add_assoc]; exact h.cell _ (by omega)⟩
theorem Bs.drew {w : World} {g o len : Nat} {b : Nat → Nat} (h : Bs w g o len b) : Bs w.drew g o len b := h.chg (Chg.refl w []).drew (by simp)
theorem Bs.drewN {w : World} {g o len : Nat} {b : Nat → Nat} (h : Bs w g o len b) (n : Nat) : Bs (w.drewN n) g o len b := h.chg ((Chg.refl w []).drewN n) (by simp)
end Go.Proofs.Ytialljmkkichiaa
