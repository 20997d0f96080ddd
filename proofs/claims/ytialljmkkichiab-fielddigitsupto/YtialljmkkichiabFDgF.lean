/- For all bytes b and c and all five limbs l that are together of bulk at most 1048576, rimelaw01.FieldDigits returns true and its arguments read afterwards as they read before. Its condition: that bound. -/
import Derived.Test.YtialljmkkichiabFDgL
import Derived.Test.YtialljmkkichiabAlive
import Derived.Test.YtialljmkkichiabRows
set_option linter.unusedVariables false
set_option linter.unusedSimpArgs false
set_option linter.unnecessarySimpa false
namespace Go.Proofs.Ytialljmkkichiab
section
open Go.ChangeShapes Go.WideShapes Go.ChangeAt Go.RowKit Go.Deep N
theorem fieldDigits_holds : Rows.FieldDigitsUptoSaid :=
  OpenClaim.holds_of_cond 7 Try.f7 rfl rfl rfl rfl rfl rfl rfl ⟨rfl, rfl, rfl, rfl, rfl⟩ rfl rfl rfl rfl rfl (by kernel_rfl) Try.func7 (by kernel_rfl)
    (of_decide_eq_true (by kernel_rfl)) (by unfold Func.isWrapper; first | (rw [if_pos (by decide +kernel)]; kernel_rfl) | (rw [if_neg (by decide +kernel)]; exact ⟨rfl, rfl⟩))
    (fun os started H enc _ F => fieldDigits_lifted alive_true os started H enc F)
end
end Go.Proofs.Ytialljmkkichiab
