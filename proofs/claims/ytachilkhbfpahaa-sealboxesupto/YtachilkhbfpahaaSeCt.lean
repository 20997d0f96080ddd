/- SealCounts: the walk. -/
import Derived.Test.YtachilkhbfpahaaSeCg
import Derived.Test.YtachilkhbfpahaaSeWk
import Derived.Test.YtachilkhbfpahaaSeSm
set_option linter.unusedVariables false
set_option linter.unusedSimpArgs false
set_option linter.unnecessarySimpa false
namespace Go.Proofs.Ytachilkhbfpahaa
open Go.RowKit

/-- A list of texts. -/
def Tx (w : World) (v : Value) (K : Nat) (tv : Nat → Value) (tn : Nat → Nat) (tf : Nat → Nat → Nat) : Prop :=
  ∃ p c, v = .slice p K c ∧ K ≤ 9223372036854775807 ∧ (0 < K → ∃ g o, p = some ⟨g, o, none⟩ ∧ g < w.heap.size ∧ ∀ i, i < K → w.cell? ⟨g, o + i, none⟩ = some (tv i)) ∧ ∀ i, i < K → Sz w (tv i) (tn i) (tf i) ∧ tn i ≤ 140737488351232
theorem Blk.szn {w : World} {g N : Nat} {b : Nat → Nat} {T : TypeId} (h : Blk w g (yC N b) T) (hb : ∀ i, i < N → b i < 256) (hc : N ≤ 9223372036854775807) : Sz w (.slice (some ⟨g, 0, none⟩) N N) N b :=
  (h.sz hb 0 N N (by omega) (by omega) hc).cg fun i _ => by rw [Nat.zero_add]
end Go.Proofs.Ytachilkhbfpahaa
