/- wire: a reader gives up. -/
import Derived.Test.YtjppbngimacgnaaGreatDoorW5
set_option linter.unusedVariables false
set_option linter.unusedSimpArgs false
set_option linter.unnecessarySimpa false
namespace Go.Proofs.YtjppbngimacgnaaGreatDoor
open Go.RowKit

/-- A call ends by giving up with a fault. -/
def Gu (base : Nat) (s : ByteArray) (a y : Int) (e : Ending) (w' : World) : Prop := ∃ v, e = .panicked [{ v := v, recovered := false }] ∧ Ft w' base v s a y
set_option maxHeartbeats 4000000 in
set_option maxRecDepth 100000 in
theorem giveUp_s (s : ByteArray) (a y : Int) (w : World) : Calls Tryz.prog 52 #[.string s, .int .i64 a, .int .i64 y] w fun e w' => Gu w.heap.size s a y e w' ∧ Chg w w' [] := by
  go_enter Tryz.func52, Tryz.ntmps52
  go_wp2_with fail
  exact ⟨rfl, ⟨_, rfl, _, rfl, Nat.le_refl _, Blk.new _ _ _⟩, (Chg.refl _ _).alloc _⟩
end Go.Proofs.YtjppbngimacgnaaGreatDoor
