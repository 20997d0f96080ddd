/- rimelaw02.works: the small example that every law of the layer ends with. -/
import Derived.Test.YthpfdnkcepfbaaaDoorCmp
set_option linter.unusedVariables false
set_option linter.unusedSimpArgs false
set_option linter.unnecessarySimpa false
namespace Go.Proofs.YthpfdnkcepfbaaaDoor
open Go.RowKit N

theorem mkZ32 (w : World) : (Instr.makeSlice 22 (.int .i64 32) (.int .i64 32)).run Tryd.prog w = .ok (.slice (some ⟨w.heap.size, 0, none⟩) 32 32) (w.alloc (.cells z32 5)) := by kernel_rfl
theorem pw_1 (k : Nat) : pwQ 1 k = 1 := by unfold pwQ; rw [Int.one_pow]; decide
end Go.Proofs.YthpfdnkcepfbaaaDoor
