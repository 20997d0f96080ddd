import Derived.Test.YtgjclegpnbjlkaaGreatDoorMxB
import Derived.Test.YtgjclegpnbjlkaaGreatDoorMwM
set_option linter.all false
namespace Go.Proofs.YtgjclegpnbjlkaaGreatDoor
open Go.RowKit
theorem results_ccR {P : Program} {fn : Func} {p q : Tmp} {ty ty' : TypeId} (h : fn.results = #[.cell p ty, .cell q ty']) (tmps : Array Value) (w : World) (g g' : Nat) (t t' : TypeId) (cs cs' : Array Value) (d d' : TypeDesc)
   (hp : tmps.getD p undef = .pointer (some ⟨g, 0, none⟩)) (hq : tmps.getD q undef = .pointer (some ⟨g', 0, none⟩)) (hg : w.heap[g]? = some (.cells cs t (0, 0))) (hg' : w.heap[g']? = some (.cells cs' t' (0, 0)))
   (hu : P.underlying ty = some d) (hd : (match d with | .struct _ | .array _ _ => true | _ => false) = true) (hi : (P.info? ty).map (·.size) = some cs.size)
   (hu' : P.underlying ty' = some d') (hd' : (match d' with | .struct _ | .array _ _ => true | _ => false) = true) (hi' : (P.info? ty').map (·.size) = some cs'.size) :
   (results fn tmps).run P w = .ok (.tuple #[.agg cs, .agg cs']) w := by
 have hp' : tmps[p]?.getD undef = .pointer (some ⟨g, 0, none⟩) := by simpa using hp
 have hq' : tmps[q]?.getD undef = .pointer (some ⟨g', 0, none⟩) := by simpa using hq
 simp [results, h, hp', hq', asAddr, run_loadVar_row w g t ty cs (0, 0) d hg hu hd hi, run_loadVar_row w g' t' ty' cs' (0, 0) d' hg' hu' hd' hi']
theorem exec_buildD {P : Program} {o : Oper} {a : Act} (w : World) (t : TypeId) (parts : Array (Nat × Operand)) (ho : o.op = .build t parts) (cells : Array Value) (hb : P.built t (parts.map fun (i, x) => (i, a.eval x)).toList = some cells) :
   (execOp a.eval o).run P w = .ok (.value (.agg cells)) w := by
 have h := run_build (P := P) w t (parts.map fun (i, x) => (i, a.eval x)) cells hb
 unfold execOp
 simp only [ho, Sem.run_bind, h, Result.andThen_ok, Sem.run_pure]
theorem exec_build0D {P : Program} {o : Oper} {a : Act} (w : World) (t : TypeId) (ho : o.op = .build t #[]) (cells : Array Value) (hb : P.built t [] = some cells) :
   (execOp a.eval o).run P w = .ok (.value (.agg cells)) w := exec_buildD w t #[] ho cells (by simpa using hb)
theorem builtRR (g o n c : Nat) : Tryz.prog.built 147 [(0, .slice (some ⟨g, o, none⟩) n c), (1, .int .i64 10)] = some (rrC (.slice (some ⟨g, o, none⟩) n c) 10 none) := by kernel_rfl
theorem builtMk (k : Int) : Tryz.prog.built 35 [(0, .int .i64 k)] = some (msC (ms0 k)) := by kernel_rfl
theorem ms_pair_congr (m : Ms) {d d' : Int} {h b h' b' : Nat → Nat} (hc : cmC d h b = cmC d' h' b') : msC { m with id := d, hid := h, bnd := b } = msC { m with id := d', hid := h', bnd := b' } := by
 have q : (Value.int .i64 d :: (yL 32 h ++ yL 32 b)) = (.int .i64 d' :: (yL 32 h' ++ yL 32 b')) := by
   have := congrArg Array.toList hc
   simpa only [cmC] using this
 rw [← ms_set_pair m d h b, q, ms_set_pair m d' h' b']
theorem ms_pair4_congr (m : Ms) {d d' : Int} {h b h' b' x y : Nat → Nat} (hc : cmC d h b = cmC d' h' b') : msC { m with id := d, hid := h, bnd := b, bind := x, share := y } = msC { m with id := d', hid := h', bnd := b', bind := x, share := y } := ms_pair_congr { m with bind := x, share := y } hc
theorem msW (m : Ms) : (Tryz.prog.info? 35).map (·.size) = some (msC m).size := by rw [msC_size]; exact msInfoW
theorem sz_ne : sSess.toList ≠ s0E.toList ∧ sFrm.toList ≠ s0E.toList ∧ sToo.toList ≠ s0E.toList ∧ sPair.toList ≠ s0E.toList ∧ sBind.toList ≠ s0E.toList ∧ sShare.toList ≠ s0E.toList ∧ sCode.toList ≠ s0E.toList ∧ sSig.toList ≠ s0E.toList ∧ sTail.toList ≠ s0E.toList :=
 ⟨ne_s0 (List.cons_ne_nil _ _), ne_s0 (List.cons_ne_nil _ _), ne_s0 (List.cons_ne_nil _ _), ne_s0 (List.cons_ne_nil _ _), ne_s0 (List.cons_ne_nil _ _), ne_s0 (List.cons_ne_nil _ _), ne_s0 (List.cons_ne_nil _ _), ne_s0 (List.cons_ne_nil _ _), ne_s0 (List.cons_ne_nil _ _)⟩
theorem tlO_ok {A a : Nat} {o : FO} (ho : okO o) : okO (tlO A a o) := by
 unfold tlO
 split
 · exact okO_or ho sz_ne.2.2.2.2.2.2.2.2
 · exact ho
theorem cdO_ok {c a : Nat} {o : FO} (ho : okO o) : okO (cdO c a o) := by
 unfold cdO
 split
 · exact okO_or ho sz_ne.2.2.2.2.2.2.1
 · exact ho
theorem hcc0 {f : Nat → Nat} {cc a : Nat} {o : FO} (h : nm f 0 2 = cc) (h0 : cc = 0) : cdO (nm f 0 2) a o = o.or (some (sCode, a, 1)) := by unfold cdO; rw [if_pos (by omega)]
def RDq (n : Nat) (F : Nat → Nat) (w : World) (e : Ending) (w' : World) : Prop :=
 ((∃ s a y, FrP n F s a y ∧ e = .returned (.tuple #[.agg (msC (ms0 0)), .agg (ftC s a y)])) ∨ (∃ B M, w.heap.size ≤ B ∧ e = .returned (.tuple #[.agg (msC M), .agg (ftC s0E 0 0)]) ∧ (M.list.oneCell' = true ∧ M.text.oneCell' = true) ∧ FrR n F B M w')) ∧ Chg w w' []
theorem pkH {g o n c A : Nat} {F : Nat → Nat} {w : World} (z : Int) (hz : ((F 5 : Nat) : Int) = z) (hA : A = 10 + nm F 6 4) (hn : n = A + 4) (hG : HdG n F) (hc : n ≤ c) (hc2 : c ≤ 9223372036854775807) (hB : Bs w g o n F) : Hid (∀ W, Chg w W [] → Calls Tryz.prog 18 #[.slice (some ⟨g, o, none⟩) n c] W fun e w' => e = .returned (.tuple #[.int .i64 z, .int .i64 (n : Int), .agg (ftC s0E 0 0)]) ∧ Chg W w' []) := fun W k => (Peek_r _ n F W (Or.inr ⟨g, o, c, rfl, hc, hc2, hB.chg k (by simp)⟩)).mono fun e w' q => by
 subst hz
 obtain ⟨⟨s, a, y, hp, _⟩ | ⟨_, rfl⟩, kk⟩ := q
 · exact absurd hp hG.noP
 · refine ⟨?_, kk⟩
   rw [show 14 + nm F 6 4 = n from by omega]
   try rfl
theorem smH {g o n c A : Nat} {F : Nat → Nat} {w : World} (hA : A = 10 + nm F 6 4) (hn : n = A + 4) (h4 : nm F 6 4 ≤ 1065189) (hc : n ≤ c) (hc2 : c ≤ 9223372036854775807) (hB : Bs w g o n F) : Hid (∀ W, Chg w W [] → Calls Tryz.prog 61 #[.slice (some ⟨g, o, none⟩) A c] W fun e w' => e = .returned (.agg (yC 64 (sha F A))) ∧ Chg W w' []) := fun W k => Sum_r _ A F W (by omega) (Or.inr ⟨g, o, c, rfl, by omega, hc2, (hB.chg k (by simp)).lo (by omega)⟩)
theorem fpH {n A : Nat} {F : Nat → Nat} (hA : A = 10 + nm F 6 4) (hn : n = A + 4) (hG : HdG n F) : Hid (eqnW 4 (sha F A) (fun j => F (A + j)) = false → FrP n F sSum A 103) := fun q => Or.inr ⟨hG, Or.inr (Or.inr ⟨by omega, Or.inl ⟨by rw [← hA]; exact q, rfl, hA, rfl⟩⟩)⟩
theorem tkH {r A c g o n rm rf mb : Nat} {F : Nat → Nat} {w : World} (HA : Hid (n = A + 4 ∧ 10 ≤ A ∧ A ≤ 1065199 ∧ n ≤ c ∧ c ≤ 9223372036854775807)) (HB : Hid (∀ W, Chg w W [] → Bs W g o n F)) (HD : Hid (g < rm ∧ rm < rf ∧ rf < r ∧ r < mb ∧ w.heap.size ≤ rm)) : Hid (∀ (a k : Nat) (s : ByteArray) (o' : FO) (W : World), okO o' → a ≤ A → k ≤ 140737488355331 → Chg w W [] → RS W r (.slice (some ⟨g, o, none⟩) A c) a o' → Calls Tryz.prog 62 #[.pointer (some ⟨r, 0, none⟩), .string s, .int .i64 (a : Int), .int .i64 (k : Int)] W fun e w' => TkP W r (.slice (some ⟨g, o, none⟩) A c) A a k F s o' e w') := fun a k s o' W ho ha hk kW h => take_r r A c g o a k F s o' ho ha (by have := HA.out; omega) HA.out.2.2.2.2 hk W h ((HB.out W kW).lo (by have := HA.out; omega)) (by have := HD.out; omega)
theorem prH {r A c g o n rm rf mb : Nat} {F : Nat → Nat} {w : World} (HA : Hid (n = A + 4 ∧ 10 ≤ A ∧ A ≤ 1065199 ∧ n ≤ c ∧ c ≤ 9223372036854775807)) (HB : Hid (∀ W, Chg w W [] → Bs W g o n F)) (HD : Hid (g < rm ∧ rm < rf ∧ rf < r ∧ r < mb ∧ w.heap.size ≤ rm)) : Hid (∀ (a : Nat) (s : ByteArray) (o' : FO) (W : World), okO o' → s.toList ≠ s0E.toList → a ≤ A → Chg w W [] → RS W r (.slice (some ⟨g, o, none⟩) A c) a o' → Calls Tryz.prog 63 #[.pointer (some ⟨r, 0, none⟩), .string s] W fun e w' => PrP W r (.slice (some ⟨g, o, none⟩) A c) A a F s o' e w') := fun a s o' W ho hs ha kW h => pair_r2 r A c g o a F s o' ho hs ha (by have := HA.out; omega) HA.out.2.2.2.2 W h ((HB.out W kW).lo (by have := HA.out; omega)) (by have := HD.out; omega)
end Go.Proofs.YtgjclegpnbjlkaaGreatDoor
