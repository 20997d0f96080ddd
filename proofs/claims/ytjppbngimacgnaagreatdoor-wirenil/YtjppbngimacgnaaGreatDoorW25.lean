/- rimeplain.SameMessage of a refusal and itself. -/
import Derived.Test.YtjppbngimacgnaaGreatDoorW19
import Derived.Laws.StructEq
set_option linter.unusedVariables false
set_option linter.unusedSimpArgs false
set_option linter.unnecessarySimpa false
namespace Go.Proofs.YtjppbngimacgnaaGreatDoor
open Go.RowKit

/-- The refusal that works sends. -/
def m5 : Ms := { ms0 5 with fr := 2, code := 5 }
theorem load_gm {ops : Array Oper} {rest : List Oper} {op : Oper} {a : Act} {w : World} {Q : Exit → Act → World → Prop} (hw : Region.wanted op (yielded ops a.tmps) = true) (ty : TypeId) (x : Operand) (ho : op.op = .load ty x) (b o : Nat) (hx : a.eval x = .pointer (some ⟨b, o, none⟩))
    (cells : List Value) (hr : w.rangeAt b o cells) {d : TypeDesc} (hu : Tryz.prog.underlying ty = some d) (hd : d.isRow = true) (hi : (Tryz.prog.info? ty).map (·.size) = some cells.length)
    (h : wpList Tryz.prog ops Q rest (a.put op.dst (.agg cells.toArray)) w) : wpList Tryz.prog ops Q (op :: rest) a w :=
  wpList_step fun K hK => by rw [if_pos hw]; exact wp_load_mid ty x ho b o hx cells _ hr hu hd hi (hK _ _ h)
theorem hashUW : ∃ d, Tryz.prog.underlying 47 = some d ∧ d.isRow = true := ⟨_, Tryz.underlying47, rfl⟩
def z0L (n : Nat) : List Value := yL n (fun _ => 0)
theorem eqHashZ (w : World) : (Op.equalIn 10000 47 (.agg (z0L 32).toArray) (.agg (z0L 32).toArray)).run Tryz.prog w = .ok true w := by kernel_rfl
theorem eqScZ (w : World) : (Op.equalIn 10000 52 (.agg (z0L 32).toArray) (.agg (z0L 32).toArray)).run Tryz.prog w = .ok true w := by kernel_rfl
theorem eqSigZ (w : World) : (Op.equalIn 10000 54 (.agg (z0L 64).toArray) (.agg (z0L 64).toArray)).run Tryz.prog w = .ok true w := by kernel_rfl
def cmL0 : List Value := .int .i64 0 :: (yL 32 (fun _ => 0) ++ yL 32 (fun _ => 0))
theorem eqCmtZ (w : World) : (Op.equalIn 10000 50 (.agg cmL0.toArray) (.agg cmL0.toArray)).run Tryz.prog w = .ok true w := by kernel_rfl
theorem cmtGuard : Tryz.prog.eqGuardType Tryz.prog.depth 50 = false := by kernel_rfl
theorem cmtInfo : (Tryz.prog.info? 50).map (·.size) = some 65 := by kernel_rfl
theorem scInfoW : (Tryz.prog.info? 52).map (·.size) = some 32 := by kernel_rfl
theorem sigInfoW : (Tryz.prog.info? 54).map (·.size) = some 64 := by kernel_rfl
set_option maxHeartbeats 4000000 in
set_option maxRecDepth 100000 in
theorem SameCommitments_nil (w : World) : Calls Tryz.prog 32 #[.slice none 0 0, .slice none 0 0] w fun e w' => e = .returned (.bool true) ∧ Chg w w' [] := by
  have cc := Chg.refl w []
  go_enter Tryz.func32, Tryz.ntmps32
  go_wp2_with fail
  go_loopw [5] (fun t wr => t = .int .i64 0 ∧ Chg w wr []) (fun _ _ => 0)
  case atStart => exact ⟨rfl, cc⟩
  case round =>
    clear cc
    obtain ⟨rfl, cc⟩ := hrel
    go_wp2_with fail
    go_ret
    exact ⟨rfl, cc⟩
set_option maxHeartbeats 4000000 in
set_option maxRecDepth 100000 in
theorem SameBytes_nil (w : World) : Calls Tryz.prog 33 #[.slice none 0 0, .slice none 0 0] w fun e w' => e = .returned (.bool true) ∧ Chg w w' [] := by
  have cc := Chg.refl w []
  go_enter Tryz.func33, Tryz.ntmps33
  go_wp2_with fail
  go_loopw [5] (fun t wr => t = .int .i64 0 ∧ Chg w wr []) (fun _ _ => 0)
  case atStart => exact ⟨rfl, cc⟩
  case round =>
    clear cc
    obtain ⟨rfl, cc⟩ := hrel
    go_wp2_with fail
    go_ret
    exact ⟨rfl, cc⟩
end Go.Proofs.YtjppbngimacgnaaGreatDoor
