/- slices.Grow of nothing, slices.Concat of two lists of bytes. -/
import Derived.Test.YtjppbngimacgnaaGreatDoorW1
import Derived.Lib.AppendZerosOnto
import Derived.Deep.DeepAppendWide
set_option linter.unusedVariables false
set_option linter.unusedSimpArgs false
set_option linter.unnecessarySimpa false
namespace Go.Proofs.YtjppbngimacgnaaGreatDoor
open Go.RowKit

theorem grow_w {w : World} {ops : Array Oper} {rest : List Oper} {o : Oper} {a : Act} {Q : Exit → Act → World → Prop} (hgd : o.guard = none) (so xo : Operand) (ho : o.op = .call { callee := .builtin .append, args := #[so, xo], argTypes := #[24, 3] })
    (vs vx v' : Value) (w' : World) (hs : a.eval so = vs) (hx : a.eval xo = vx) (hrun : ∀ ty, (Builtin.append_ #[24, 3] ty #[vs, vx]).run Tryz.prog w = .ok v' w') (h : wpList Tryz.prog ops Q rest (a.put o.dst v') w') : wpList Tryz.prog ops Q (o :: rest) a w := by
  refine wpList_plain hgd fun K hK => ?_
  unfold Oper.wp execOp
  simp only [ho, resolve, invoke, builtin, Sem.run_bind, Sem.run_pure, Result.andThen_ok, List.map_toArray, List.map_cons, List.map_nil, hs, hx, hrun]
  exact hK _ _ h
set_option maxHeartbeats 4000000 in
set_option maxRecDepth 100000 in
theorem Grow_s (n : Nat) (h0 : 0 < n) (hn : n ≤ 1000000000) (w : World) :
    Calls Tryz.prog 49 #[.slice none 0 0, .int .i64 (n : Int)] w fun e w' => ∃ v', e = .returned v' ∧ (∀ f, Own w' w.heap.size v' 0 f) ∧ Chg w w' [] := by
  obtain ⟨i, hi, hz, h1, h2⟩ := u8Row
  have hge := grownCap_ge w n 0 5
  have hle := grownCap_le_maxLen w n 0 5 (by unfold maxLen; omega)
  obtain ⟨G, hG⟩ : ∃ G, G = grownCap w n 0 5 := ⟨_, rfl⟩
  rw [← hG] at hge hle
  have hrz : ∃ C : Array Value, C.size = G ∧ ∀ ty, (Builtin.append_ #[24, 3] ty #[.slice none 0 0, .int .i64 (n : Int)]).run Tryz.prog w = .ok (.slice (some ⟨w.heap.size, 0, none⟩) n G) (w.drew.alloc (.cells C 5)) := by
    have q := fun ty => Lib.run_append_grow_zeros w 24 3 ty 5 i (.int .u8 0) .i64 .i64 Tryz.underlying24 Tryz.underlying3 hi hz none 0 0 [] (run_firstCells_none w.drew i.size 0 0 0) n h0 (by omega) (by omega) (by omega) (by rw [h2]; omega) (by rw [h2]; exact growslice_fits_wide (by omega) (by omega))
    simp only [Nat.zero_add, ← hG] at q
    exact ⟨_, by simp [Builtin.zeroCells, Value.cells]; omega, q⟩
  clear hG
  obtain ⟨C, hC, hrun⟩ := hrz
  have ew : IntKind.i64.wrap (n : Int) = (n : Int) := by rw [IntKind.wrap_i64]; omega
  have hpos : (0 : Int) < (n : Int) := by omega
  have hnn : ¬ (n : Int) < 0 := by omega
  have HG : Hid (n ≤ G ∧ G ≤ maxLen ∧ C.size = G) := ⟨hge, hle, hC⟩
  have hG0 : (0 : Int) ≤ (G : Int) := by omega
  clear hz hi h0 hn hge hle hC
  go_enter Tryz.func49, Tryz.ntmps49
  go_wp2_with (with_reducible refine grow_w ?_ (.tmp 20) (.tmp 21) ?_ (.slice none 0 0) (.int .i64 (n : Int)) _ _ ?_ ?_ hrun ?_
               · rfl
               · rfl
               · rfl
               · rfl)
  go_ret
  refine ⟨_, rfl, fun f => ⟨⟨by simp [yL], Or.inr ⟨w.heap.size, G, C, rfl, Nat.le_refl _, ?_, by omega, HG.out.2.1, by rw [HG.out.2.2, Nat.mul_one], by simp [yL]⟩⟩, fun i hi => by omega⟩, ((Chg.refl w []).drew).alloc _⟩
  exact Blk.new w.drew C 5
end Go.Proofs.YtjppbngimacgnaaGreatDoor
