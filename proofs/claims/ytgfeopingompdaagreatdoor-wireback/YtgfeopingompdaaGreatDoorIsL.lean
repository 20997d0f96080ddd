/- errors.Is of a fault and its number. -/
import Derived.Test.YtgfeopingompdaaGreatDoorG
import Derived.LaidEql
import Derived.Stop.Asserts
import Derived.RowKitTokens
set_option linter.unusedVariables false
set_option linter.unusedSimpArgs false
set_option linter.unnecessarySimpa false
namespace Go.Proofs.YtgfeopingompdaaGreatDoor
open Go.RowKit Go.Extern.Stop Go.Stop Go.Extern Go.Extern.Rtype

theorem isTypeOf (v : Value) (w : World) : (Extern.ReflectliteType.typeOf #[.iface 33 v]).run Tryz.prog w = .ok (.iface 217 (.agg #[.pointer (some ⟨6, 33, none⟩)])) w := by kernel_rfl
theorem isComparable (w : World) : ((Extern.ReflectliteType.method fun t => do noPackHeld "Comparable" t; pure (.bool (← typeInfo t).comparable)) #[.agg #[.pointer (some ⟨6, 33, none⟩)]]).run Tryz.prog w = .ok (.bool true) w := by kernel_rfl
theorem cmpRun (w : World) : (callFunc 167 #[.agg #[.pointer (some ⟨6, 33, none⟩)]]).run Tryz.prog w = .ok (.value (.bool true)) w := by
  have h32 := @run_callFunc_extern Tryz.prog 167 _ (Extern.ReflectliteType.method fun t => do noPackHeld "Comparable" t; pure (.bool (← typeInfo t).comparable)) Tryz.func167 (by kernel_rfl) (by kernel_rfl) (by kernel_rfl) (by kernel_rfl)
  rw [h32, isComparable]
  rfl
theorem noIsF (v : Value) (xT : TypeId) (w : World) : (Instr.typeAssert (.iface 108 v) xT 219 true).run Tryz.prog w = .ok (.tuple #[.nilIface, .bool false]) w := run_typeAssert_lacksB Tryz.underlying219 (by kernel_rfl) (by kernel_rfl) v xT w
theorem hasUnwrapF (v : Value) (xT : TypeId) (w : World) : (Instr.typeAssert (.iface 108 v) xT 221 true).run Tryz.prog w = .ok (.tuple #[.iface 108 v, .bool true]) w := run_typeAssert_hasB Tryz.underlying221 (by kernel_rfl) v xT w
theorem isComp : (Tryz.prog.info? 33).map (·.comparable) = some true := by kernel_rfl
theorem eqErrno (y : Int) (w : World) : (binOp .eql 54 (.iface 33 (.int .i64 y)) (.iface 33 (.int .i64 y))).run Tryz.prog w = .ok (.bool true) w := by
  obtain ⟨i, hi, hc⟩ := Option.map_eq_some_iff.1 isComp
  have h : ∀ d : Nat, (Op.equalIn (d + 2) 54 (.iface 33 (.int .i64 y)) (.iface 33 (.int .i64 y))).run Tryz.prog w = .ok true w := fun d => by
    simp [Op.equalIn, run_underlying Tryz.underlying54, run_underlying Tryz.underlying33, typeInfo, hi, hc]
  simp only [binOp]
  simp [Op.equal, Op.maxDepth, h 9998]
set_option maxHeartbeats 4000000 in
set_option maxRecDepth 100000 in
theorem Unwrap_s (g : Nat) (s : ByteArray) (a y : Int) (w : World) (h : Blk w g #[.string s, .int .i64 a, .int .i64 y] 111) : Calls Tryz.prog 161 #[.pointer (some ⟨g, 0, none⟩)] w fun e w' => e = .returned (.iface 33 (.int .i64 y)) ∧ w' = w := by
  have c2 : w.cell? ⟨g, 2, none⟩ = some (.int .i64 y) := by rw [h.cell]; rfl
  clear h
  go_enter Tryz.func161, Tryz.ntmps161
  go_wp2_with fail
  go_ret
  exact ⟨rfl, rfl⟩
set_option maxHeartbeats 4000000 in
set_option maxRecDepth 100000 in
theorem Is_s (g : Nat) (s : ByteArray) (a y : Int) (w : World) (h : Blk w g #[.string s, .int .i64 a, .int .i64 y] 111) :
    Calls Tryz.prog 41 #[.iface 108 (.pointer (some ⟨g, 0, none⟩)), .iface 33 (.int .i64 y)] w fun e w' => e = .returned (.bool true) ∧ w' = w := by
  have h8 := @run_callFunc_extern Tryz.prog 87 _ Extern.ReflectliteType.typeOf Tryz.func87 (by kernel_rfl) (by kernel_rfl) (by kernel_rfl) (by kernel_rfl)
  have cR := cmpRun
  have tT := isTypeOf
  have nF := noIsF
  have uF := hasUnwrapF
  have heq := eqErrno y w
  have hty := run_eql_iface_types (P := Tryz.prog) 108 33 (.pointer (some ⟨g, 0, none⟩)) (.int .i64 y) Tryz.underlying54 (by decide) w
  have c2 : w.cell? ⟨g, 2, none⟩ = some (.int .i64 y) := by rw [h.cell]; rfl
  clear h
  go_enter Tryz.func41, Tryz.ntmps41
  go_wp2
  refine wp_loop_rounds 2 ?_
  rw [rounds_succ]
  go_wp2
  rw [rounds_succ]
  go_wp2
  go_ret
  exact ⟨rfl, rfl⟩
end Go.Proofs.YtgfeopingompdaaGreatDoor
