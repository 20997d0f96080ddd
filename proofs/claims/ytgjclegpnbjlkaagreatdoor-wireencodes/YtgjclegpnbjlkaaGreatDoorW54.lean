/- rimeref10.Used of a message that may be. -/
import Derived.Test.YtgjclegpnbjlkaaGreatDoorMwF
import Derived.Test.YtgjclegpnbjlkaaGreatDoorW50t
import Derived.Test.YtgjclegpnbjlkaaGreatDoorMwE
import Derived.Test.YtgjclegpnbjlkaaGreatDoorW38
import Derived.Deep.DeepAppendWide
set_option linter.unusedVariables false
set_option linter.unusedSimpArgs false
set_option linter.unnecessarySimpa false
namespace Go.Proofs.YtgjclegpnbjlkaaGreatDoor
open Go.RowKit

/-- A slice literal without elements. -/
theorem bs0 {w : World} {ops : Array Oper} {rest : List Oper} {op : Oper} {a : Act} {Q : Exit → Act → World → Prop} (hgd : op.guard = none) (t e : TypeId) (ho : op.op = .buildSlice t 0 #[]) (ie : TypeInfo) (hu : Tryz.prog.underlying t = some (.slice e)) (hie : Tryz.prog.info? e = some ie)
    (h : ∀ g w', w.heap.size ≤ g → Blk w' g #[] e → Chg w w' [] → wpList Tryz.prog ops Q rest (a.put op.dst (.slice (some ⟨g, 0, none⟩) 0 0)) w') : wpList Tryz.prog ops Q (op :: rest) a w := by
  refine wpList_plain hgd fun _ hK => ?_
  have hr : (Instr.buildSlice t 0 #[]).run Tryz.prog w = .ok (.slice (some ⟨w.heap.size, 0, none⟩) 0 0) (w.alloc (.cells #[] e)) := by
    simp [Instr.buildSlice, run_underlying hu, sizeOf, typeInfo, hie, newRow, Instr.fill, show (Array.range 0) = #[] from rfl]
  unfold Oper.wp execOp
  simp only [ho, Array.map_empty, Sem.run_bind, hr, Result.andThen_ok, Sem.run_pure]
  exact hK _ _ (h _ _ (Nat.le_refl _) (Blk.new _ _ _) ((Chg.refl _ _).alloc _))
theorem own0 {w : World} {base g s : Nat} {e : TypeId} (h : Blk w g #[] e) (hg : base ≤ g) : w.ownsRow base e s (.slice (some ⟨g, 0, none⟩) 0 0) 0 [] :=
  ⟨by simp, Or.inr ⟨g, 0, #[], rfl, hg, h, Nat.le_refl _, by simp [maxLen], by simp, by simp⟩⟩
/-- A list of commitments is appended to a literal without elements. -/
theorem app_cl {w : World} {ops : Array Oper} {rest : List Oper} {o : Oper} {a : Act} {Q : Exit → Act → World → Prop} (hgd : o.guard = none) (so xo : Operand)
    (ho : o.op = .call { callee := .builtin .append, args := #[so, xo], argTypes := #[28, 28] }) (base g : Nat) (x : Value) (N : Nat) (d : Nat → Int) (h b : Nat → Nat → Nat) (hs : a.eval so = .slice (some ⟨g, 0, none⟩) 0 0) (hxe : a.eval xo = x) (hB : Blk w g #[] 27) (hg : base ≤ g) (hx : Cl w x N d h b) (hN : N ≤ 255) (hbase : base ≤ w.heap.size)
    (hk : ∀ p c w', OwnR w' base 27 65 (.slice p N c) N (cF d h b) → Chg w w' [g] → wpList Tryz.prog ops Q rest (a.put o.dst (.slice p N c)) w') : wpList Tryz.prog ops Q (o :: rest) a w := by
  obtain ⟨ie, hie, hz, h1, h2⟩ := cmRow
  have hR := hx.1
  rcases hR.2 with ⟨h0, rfl⟩ | ⟨gx, ox, cx, rfl, q1, q2, q3, q4⟩
  · refine wpList_append_own_none hgd so xo 28 ho base 27 ie 65 Tryz.underlying28 hie _ 0 [] hs (own0 hB hg) hxe ?_
    subst h0
    exact hk _ _ w ⟨own0 hB hg, hR.1⟩ (Chg.refl _ _)
  · refine wpList_append_own_wide w hgd so xo 28 ho base 27 ie (.agg (cmC 0 zN zN)) 65 72 Tryz.underlying28 hie hz h1 h2 (by rw [Value.cells, cmC_size]) (by omega) _ 0 [] hs (own0 hB hg) ⟨gx, ox, none⟩ N cx (rL 65 N (cF d h b)) hxe (rL_len 65 N _)
      (Rl.cells (cap := cx) hR.1 q4) (rL_one hR.1) (by simp [maxLen]; omega) (by omega) hbase ?_
    intro v' w' h3 h4 _
    rw [List.nil_append, Nat.zero_add] at h3
    have hO : OwnR w' base 27 65 v' N (cF d h b) := ⟨h3, hR.1⟩
    obtain ⟨p, c, rfl⟩ := hO.lenL
    exact hk p c w' hO (Chg.grown h4)
theorem OwnR.lts {w : World} {base : Nat} {T : TypeId} {s : Nat} {v : Value} {n : Nat} {F : Nat → List Value} (h : OwnR w base T s v n F) : ∀ k ∈ ob v, k < w.heap.size := by
  obtain ⟨⟨_, h1⟩, _⟩ := h
  rcases h1 with ⟨rfl, _⟩ | ⟨g, cap, cur, rfl, hg, hh, _⟩
  · intro k hk; simp [ob, Value.ownBlock] at hk
  · intro k hk; simp [ob, Value.ownBlock] at hk; subst hk; exact (Array.getElem?_eq_some_iff.1 hh).1
theorem cat_0u (f g : Nat → Nat) : cat f 0 g = g := by
  funext i
  unfold cat
  rw [if_neg (by omega), Nat.sub_zero]
theorem wpList_build4 {P : Program} {ops : Array Oper} {rest : List Oper} {o : Oper} {a : Act} {w : World} {Q : Exit → Act → World → Prop} (hg : o.guard = none) (t : TypeId) (i0 i1 i2 i3 : Nat) (x0 x1 x2 x3 : Operand) (ho : o.op = .build t #[(i0, x0), (i1, x1), (i2, x2), (i3, x3)]) (v0 v1 v2 v3 : Value)
    (h0 : a.eval x0 = v0) (h1 : a.eval x1 = v1) (h2 : a.eval x2 = v2) (h3 : a.eval x3 = v3) (cells : Array Value) (hb : P.built t [(i0, v0), (i1, v1), (i2, v2), (i3, v3)] = some cells) (h : wpList P ops Q rest (a.put o.dst (.agg cells)) w) : wpList P ops Q (o :: rest) a w :=
  wpList_buildW hg t _ ho cells (by subst h0 h1 h2 h3; simpa using hb) h
theorem builtUs (m : Ms) : Tryz.prog.built 35 [(0, .int .i64 m.kind), (1, .agg (yL 32 m.ses).toArray), (2, .int .i64 m.fr), (3, .int .i64 m.to)] = some (msC (us0 m)) := by kernel_rfl
/-- What Used answers. -/
def UsQ (m : Ms) (N : Nat) (d : Nat → Int) (h b : Nat → Nat → Nat) (M : Nat) (ft : Nat → Nat) (w : World) (e : Ending) (w' : World) : Prop :=
  ((m.kind ≠ 3 ∧ e = .returned (.agg (msC (usM m)))) ∨ (m.kind = 3 ∧ ∃ vl vt, e = .returned (.agg (msC { us0 m with list := vl, text := vt })) ∧ OwnR w' w.heap.size 27 65 vl N (cF d h b) ∧ (∀ j, j < N → ∀ i, i < 32 → h j i < 256 ∧ b j i < 256) ∧ Own w' w.heap.size vt M ft)) ∧ Chg w w' []
theorem u8RowU : ∃ i, Tryz.prog.info? 5 = some i := Option.isSome_iff_exists.1 (by kernel_rfl)
end Go.Proofs.YtgjclegpnbjlkaaGreatDoor
