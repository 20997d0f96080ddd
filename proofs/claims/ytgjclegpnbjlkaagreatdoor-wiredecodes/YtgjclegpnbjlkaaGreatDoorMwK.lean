/- Joined: W48, W49. -/
import Derived.Test.YtgjclegpnbjlkaaGreatDoorMwC
import Derived.Test.YtgjclegpnbjlkaaGreatDoorMwU
import Derived.Test.YtgjclegpnbjlkaaGreatDoorMwR
set_option linter.all false
namespace Go.Proofs.YtgjclegpnbjlkaaGreatDoor
open Go.RowKit
theorem eq_arrW (T : TypeId) (n m : Nat) (f g : Nat → Nat) (w : World) (hT : Tryz.prog.underlying T = some (.array n 5)) : (Op.equalIn (m + 1 + 1) T (.agg (yL n f).toArray) (.agg (yL n g).toArray)).run Tryz.prog w = .ok (eqnW n f g) w := by
 obtain ⟨i, hi⟩ := u8InfoV
 rw [run_equalIn_array w (m + 1) _ _ hT hi, u8CellsV]
 exact eqItems_ints w m Tryz.underlying5 _ _ (fun i => ((f i : Nat) : Int)) (fun i => ((g i : Nat) : Int)) (List.range n) (fun j hj => ⟨yC_get n f j (by simpa using hj), yC_get n g j (by simpa using hj)⟩)
theorem eq_hashW (f g : Nat → Nat) (w : World) : (Op.equalIn 10000 24 (.agg (yL 32 f).toArray) (.agg (yL 32 g).toArray)).run Tryz.prog w = .ok (eqnW 32 f g) w := eq_arrW 24 32 9998 f g w Tryz.underlying24
theorem eq_scW (f g : Nat → Nat) (w : World) : (Op.equalIn 10000 30 (.agg (yL 32 f).toArray) (.agg (yL 32 g).toArray)).run Tryz.prog w = .ok (eqnW 32 f g) w := eq_arrW 30 32 9998 f g w Tryz.underlying30
theorem eq_sigW (f g : Nat → Nat) (w : World) : (Op.equalIn 10000 32 (.agg (yL 64 f).toArray) (.agg (yL 64 g).toArray)).run Tryz.prog w = .ok (eqnW 64 f g) w := eq_arrW 32 64 9998 f g w Tryz.underlying32
theorem eq_elW (f g : Nat → Nat) (w : World) : (Op.equalIn 9999 25 (.agg (yL 32 f).toArray) (.agg (yL 32 g).toArray)).run Tryz.prog w = .ok (eqnW 32 f g) w := eq_arrW 25 32 9997 f g w Tryz.underlying25
def cmL (d : Int) (h b : Nat → Nat) : List Value := .int .i64 d :: (yL 32 h ++ yL 32 b)
def eqCm (d : Int) (h b : Nat → Nat) (d' : Int) (h' b' : Nat → Nat) : Bool := (d == d') && (eqnW 32 h h' && eqnW 32 b b')
theorem eqCm_iff (d : Int) (h b : Nat → Nat) (d' : Int) (h' b' : Nat → Nat) : eqCm d h b d' h' b' = true ↔ d = d' ∧ (∀ i, i < 32 → h i = h' i) ∧ ∀ i, i < 32 → b i = b' i := by
 unfold eqCm
 rw [Bool.and_eq_true, Bool.and_eq_true, eqnW_iff, eqnW_iff, beq_iff_eq]
theorem cmL_len (d : Int) (h b : Nat → Nat) : (cmL d h b).length = 65 := by simp [cmL, yL]
theorem cmUnder : Tryz.prog.underlying 27 = some (.struct (Tryz.prog.fieldsOf 27)) := by kernel_rfl
theorem cmStood : Tryz.prog.stoodInHeld 27 = false := by kernel_rfl
theorem cmFs : ∃ f0 f1 f2 : Field, (Tryz.prog.fieldsOf 27).toList = [f0, f1, f2] ∧ (f0.name = "ID" ∧ f0.type = 3 ∧ f0.offset = 0) ∧ (f1.name = "Hiding" ∧ f1.type = 25 ∧ f1.offset = 1) ∧ (f2.name = "Binding" ∧ f2.type = 25 ∧ f2.offset = 33) := by
 have h : ((Tryz.prog.fieldsOf 27).toList.map fun f => (f.name, f.type, f.offset)) = [("ID", 3, 0), ("Hiding", 25, 1), ("Binding", 25, 33)] := by kernel_rfl
 generalize (Tryz.prog.fieldsOf 27).toList = l at h
 rcases l with _ | ⟨f0, _ | ⟨f1, _ | ⟨f2, _ | ⟨f3, l⟩⟩⟩⟩
 · simp at h
 · simp at h
 · simp at h
 · simp only [List.map_cons, List.map_nil, List.cons.injEq, Prod.mk.injEq, and_true] at h
   exact ⟨f0, f1, f2, rfl, h.1, h.2.1, h.2.2⟩
 · simp at h
theorem elInfoW : ∃ ii, Tryz.prog.info? 25 = some ii ∧ ii.size = 32 := by
 have h : (Tryz.prog.info? 25).map (·.size) = some 32 := by kernel_rfl
 obtain ⟨i, hi, hs⟩ := Option.map_eq_some_iff.1 h
 exact ⟨i, hi, hs⟩
theorem cm_part0 (d : Int) (h b : Nat → Nat) (w : World) : (part 3 (cmL d h b).toArray 0).run Tryz.prog w = .ok (.int .i64 d) w := by
 have hh : (cmL d h b).toArray[0]? = some (.int .i64 d) := rfl
 unfold part isAgg
 simp only [Sem.run_bind, run_underlying Tryz.underlying3, Result.andThen_ok, Sem.run_pure, hh]
 rfl
theorem cm_part1 (d : Int) (h b : Nat → Nat) (w : World) : (part 25 (cmL d h b).toArray 1).run Tryz.prog w = .ok (.agg (yL 32 h).toArray) w := by
 have hh : (cmL d h b).toArray.extract 1 (1 + 32) = (yL 32 h).toArray := by kernel_rfl
 obtain ⟨ii, hi, h1⟩ := elInfoW
 unfold part isAgg sizeOf typeInfo
 simp [-List.extract_toArray, Sem.run_bind, run_underlying Tryz.underlying25, hi, h1, run_program]
 exact hh
theorem cm_part2 (d : Int) (h b : Nat → Nat) (w : World) : (part 25 (cmL d h b).toArray 33).run Tryz.prog w = .ok (.agg (yL 32 b).toArray) w := by
 have hh : (cmL d h b).toArray.extract 33 (33 + 32) = (yL 32 b).toArray := by kernel_rfl
 obtain ⟨ii, hi, h1⟩ := elInfoW
 unfold part isAgg sizeOf typeInfo
 simp [-List.extract_toArray, Sem.run_bind, run_underlying Tryz.underlying25, hi, h1, run_program]
 exact hh
theorem eq_cmW (d : Int) (h b : Nat → Nat) (d' : Int) (h' b' : Nat → Nat) (w : World) : (Op.equalIn 10000 27 (.agg (cmL d h b).toArray) (.agg (cmL d' h' b').toArray)).run Tryz.prog w = .ok (eqCm d h b d' h' b') w := by
 obtain ⟨f0, f1, f2, hl, ⟨n0, t0, o0⟩, ⟨n1, t1, o1⟩, ⟨n2, t2, o2⟩⟩ := cmFs
 have e0 : (Op.equalIn 9999 3 (.int .i64 d) (.int .i64 d')).run Tryz.prog w = .ok (d == d') w := run_equalIn_int w 9998 _ .i64 _ d d' Tryz.underlying3
 have e1 := eq_elW h h' w
 have e2 := eq_elW b b' w
 rw [show (10000 : Nat) = 9999 + 1 from rfl, run_equalIn_struct w 9999 _ _ _ cmUnder cmStood, hl]
 simp only [Op.eqFields, n0, n1, n2, t0, t1, t2, o0, o1, o2, ne_eq, Sem.run_bind, cm_part0, cm_part1, cm_part2, Result.andThen_ok]
 rw [if_pos (by decide)]
 simp only [Sem.run_bind, cm_part0, Result.andThen_ok, e0]
 unfold eqCm
 cases d == d' with
 | false => rfl
 | true =>
   simp only [Bool.not_true, Bool.false_eq_true, if_false, Bool.true_and]
   rw [if_pos (by decide)]
   simp only [Sem.run_bind, cm_part1, Result.andThen_ok, e1]
   cases eqnW 32 h h' with
   | false => rfl
   | true =>
     simp only [Bool.not_true, Bool.false_eq_true, if_false, Bool.true_and]
     rw [if_pos (by decide)]
     simp only [Sem.run_bind, cm_part2, Result.andThen_ok, e2]
     cases eqnW 32 b b' with
     | false => rfl
     | true => rfl
theorem exec_neq_cm {op : Oper} {a : Act} (w : World) (x z : Operand) (ho : op.op = .binOp .neq 27 x z 27) (d : Int) (h b : Nat → Nat) (d' : Int) (h' b' : Nat → Nat) (hx : a.eval x = .agg (cmL d h b).toArray) (hz : a.eval z = .agg (cmL d' h' b').toArray) :
   (execOp a.eval op).run Tryz.prog w = .ok (.value (.bool (!eqCm d h b d' h' b'))) w := by
 have hg := cmtGuard
 unfold execOp
 simp only [ho, hx, hz]
 simp only [Sem.run_bind, run_eqGuard_agg w _ _ _ _ _ _ hg, run_neq_struct, eq_cmW, Result.andThen_ok, Sem.run_pure]
def eqCl (N : Nat) (d : Nat → Int) (h b : Nat → Nat → Nat) (N' : Nat) (d' : Nat → Int) (h' b' : Nat → Nat → Nat) : Bool := decide (N = N') && (List.range N).all fun i => eqCm (d i) (h i) (b i) (d' i) (h' i) (b' i)
theorem eqCl_iff (N : Nat) (d : Nat → Int) (h b : Nat → Nat → Nat) (N' : Nat) (d' : Nat → Int) (h' b' : Nat → Nat → Nat) : eqCl N d h b N' d' h' b' = true ↔ N = N' ∧ ∀ i, i < N → eqCm (d i) (h i) (b i) (d' i) (h' i) (b' i) = true := by
 simp [eqCl]
def Zb (w : World) (v : Value) (n : Nat) (f : Nat → Nat) : Prop := ∃ p c, v = .slice p n c ∧ n ≤ c ∧ c ≤ 9223372036854775807 ∧ (0 < n → ∃ g o, p = some ⟨g, o, none⟩ ∧ Bs w g o n f)
theorem Sl.zb {w : World} {v : Value} {n : Nat} {f : Nat → Nat} (h : Sl w v n f) : Zb w v n f := by
 rcases h with ⟨h0, rfl⟩ | ⟨g, o, c, rfl, h1, h2, h3⟩
 · subst h0
   exact ⟨none, 0, rfl, Nat.le_refl _, by omega, fun h => by omega⟩
 · exact ⟨_, c, rfl, h1, h2, fun _ => ⟨g, o, rfl, h3⟩⟩
def eqB (n : Nat) (f : Nat → Nat) (n' : Nat) (f' : Nat → Nat) : Bool := decide (n = n') && eqnW n f f'
theorem eqB_iff (n : Nat) (f : Nat → Nat) (n' : Nat) (f' : Nat → Nat) : eqB n f n' f' = true ↔ n = n' ∧ ∀ i, i < n → f i = f' i := by
 unfold eqB
 rw [Bool.and_eq_true, eqnW_iff, decide_eq_true_iff]
theorem msL_ses (m : Ms) (i : Nat) (hi : i < 32) : (msL m)[1 + i]? = some (.int .u8 (m.ses i)) := by
 show (Value.int .i64 m.kind :: (yL 32 m.ses ++ _))[1 + i]? = _
 rw [Nat.add_comm 1 i, List.getElem?_cons_succ, List.getElem?_append_left (by rw [yL_len]; exact hi), yL_get _ _ _ hi]
theorem msL_pair (m : Ms) (i : Nat) (hi : i < 65) : (msL m)[35 + i]? = (cmL m.id m.hid m.bnd)[i]? := by
 have hx : i < (cmL m.id m.hid m.bnd).length := by rw [cmL_len]; exact hi
 rw [List.getElem?_eq_getElem hx]
 show (Value.int .i64 m.kind :: (yL 32 m.ses ++ (.int .i64 m.fr :: .int .i64 m.to :: (cmL m.id m.hid m.bnd ++ _))))[35 + i]? = _
 rw [show 35 + i = (34 + i) + 1 by omega, List.getElem?_cons_succ]
 refine getAt (i := 2 + i) (yL_len _ _) (by omega) ?_
 rw [show 2 + i = i + 1 + 1 by omega, List.getElem?_cons_succ, List.getElem?_cons_succ, List.getElem?_append_left hx, List.getElem?_eq_getElem hx]
theorem msL_bind (m : Ms) (i : Nat) (hi : i < 32) : (msL m)[102 + i]? = some (.int .u8 (m.bind i)) := by
 rw [show 102 + i = 100 + (i + 1 + 1) by omega]
 refine ms_tail m _ _ ?_
 rw [List.getElem?_cons_succ, List.getElem?_cons_succ, List.getElem?_append_left (by rw [yL_len]; exact hi), yL_get _ _ _ hi]
theorem msL_share (m : Ms) (i : Nat) (hi : i < 32) : (msL m)[134 + i]? = some (.int .u8 (m.share i)) := by
 rw [show 134 + i = 100 + (32 + i + 1 + 1) by omega]
 refine ms_tail m _ _ ?_
 rw [List.getElem?_cons_succ, List.getElem?_cons_succ]
 refine getAt (yL_len _ _) rfl ?_
 rw [List.getElem?_append_left (by rw [yL_len]; exact hi), yL_get _ _ _ hi]
theorem msL_sig (m : Ms) (i : Nat) (hi : i < 64) : (msL m)[166 + i]? = some (.int .u8 (m.sig i)) := by
 rw [show 166 + i = 100 + (32 + (32 + i) + 1 + 1) by omega]
 refine ms_tail m _ _ ?_
 rw [List.getElem?_cons_succ, List.getElem?_cons_succ]
 refine getAt (yL_len _ _) rfl (getAt (yL_len _ _) rfl ?_)
 rw [List.getElem?_append_left (by rw [yL_len]; exact hi), yL_get _ _ _ hi]
theorem ms_rg {w : World} {g : Nat} {m : Ms} {T : TypeId} (B : Blk w g (msC m) T) (k : Nat) (cs : List Value) (h : ∀ j, j < cs.length → (msL m)[k + j]? = cs[j]?) : w.rangeAt g k cs := fun j v hv => by
 have hj : j < cs.length := (List.getElem?_eq_some_iff.1 hv).1
 exact ms_at B (k + j) v ((h j hj).trans hv)
theorem ms_rses {w : World} {g : Nat} {m : Ms} {T : TypeId} (B : Blk w g (msC m) T) : w.rangeAt g 1 (yL 32 m.ses) := ms_rg B 1 _ fun j hj => by rw [yL_len] at hj; rw [msL_ses m j hj, yL_get _ _ _ hj]
theorem ms_rpair {w : World} {g : Nat} {m : Ms} {T : TypeId} (B : Blk w g (msC m) T) : w.rangeAt g 35 (cmL m.id m.hid m.bnd) := ms_rg B 35 _ fun j hj => by rw [cmL_len] at hj; exact msL_pair m j hj
theorem ms_rbind {w : World} {g : Nat} {m : Ms} {T : TypeId} (B : Blk w g (msC m) T) : w.rangeAt g 102 (yL 32 m.bind) := ms_rg B 102 _ fun j hj => by rw [yL_len] at hj; rw [msL_bind m j hj, yL_get _ _ _ hj]
theorem ms_rshare {w : World} {g : Nat} {m : Ms} {T : TypeId} (B : Blk w g (msC m) T) : w.rangeAt g 134 (yL 32 m.share) := ms_rg B 134 _ fun j hj => by rw [yL_len] at hj; rw [msL_share m j hj, yL_get _ _ _ hj]
theorem ms_rsig {w : World} {g : Nat} {m : Ms} {T : TypeId} (B : Blk w g (msC m) T) : w.rangeAt g 166 (yL 64 m.sig) := ms_rg B 166 _ fun j hj => by rw [yL_len] at hj; rw [msL_sig m j hj, yL_get _ _ _ hj]
end Go.Proofs.YtgjclegpnbjlkaaGreatDoor

set_option linter.all false
namespace Go.Proofs.YtgjclegpnbjlkaaGreatDoor
set_option maxHeartbeats 8000000
set_option maxRecDepth 100000
open Go.RowKit
theorem eqB_self {n : Nat} {f g : Nat → Nat} (h : ∀ i, i < n → f i = g i) : eqB n f n g = true := (eqB_iff n f n g).2 ⟨rfl, h⟩
theorem SameBytes_w (v0 : Value) (n0 : Nat) (f0 : Nat → Nat) (v1 : Value) (n1 : Nat) (f1 : Nat → Nat) (w : World) (h0 : Zb w v0 n0 f0) (h1 : Zb w v1 n1 f1) :
   Calls Tryz.prog 10 #[v0, v1] w fun e w' => e = .returned (.bool (eqB n0 f0 n1 f1)) ∧ Chg w w' [] := by
 have HL : Hid (n0 ≤ 9223372036854775807) := by obtain ⟨p, c, rfl, a, b, _⟩ := h0; show n0 ≤ 9223372036854775807; omega
 obtain ⟨p0, c0, rfl, _, _, b0⟩ := h0
 obtain ⟨p1, c1, rfl, _, _, b1⟩ := h1
 by_cases hn : n0 = n1
 · subst hn
   have HY : Hid ((∀ i, i < n0 → f0 i = f1 i) → eqB n0 f0 n0 f1 = true) := eqB_self
   have HN : Hid (∀ i, i < n0 → ¬ f0 i = f1 i → eqB n0 f0 n0 f1 = false) := fun i hi h => Bool.eq_false_iff.2 fun q => h (((eqB_iff _ _ _ _).1 q).2 i hi)
   obtain ⟨b, hb⟩ : ∃ b, eqB n0 f0 n0 f1 = b := ⟨_, rfl⟩
   rw [hb] at HY HN ⊢
   clear hb
   have HB : Hid (0 < n0 → (∃ g o, p0 = some ⟨g, o, none⟩ ∧ Bs w g o n0 f0) ∧ ∃ g o, p1 = some ⟨g, o, none⟩ ∧ Bs w g o n0 f1) := fun h => ⟨b0 h, b1 h⟩
   clear b0 b1
   go_enter Tryz.func10, Tryz.ntmps10
   go_wp2_with fail
   go_loopw [5] (fun t wr => ∃ i : Nat, (i ≤ n0 ∧ ∀ j, j < i → f0 j = f1 j) ∧ t = .int .i64 (i : Int) ∧ ∃ m, wr = w.drewN m) (fun t _ => ((n0 : Int) - intOf t).toNat)
   case atStart => exact ⟨0, ⟨by omega, fun j hj => by omega⟩, rfl, 0, rfl⟩
   case round =>
     obtain ⟨i, ⟨hi, hall⟩, rfl, q, rfl⟩ := hrel
     have HA : Hid (∀ j, j < i → f0 j = f1 j) := hall
     clear hall
     by_cases h8 : i < n0
     · have hI : (i : Int) < (n0 : Int) := by omega
       obtain ⟨⟨g0, o0, rfl, hb0⟩, g1, o1, rfl, hb1⟩ := HB.out (by omega)
       have c1 := hb0.cell i h8
       have c2 := hb1.cell i h8
       have e1 : IntKind.i64.wrap ((i : Int) + 1) = (i : Int) + 1 := by have := HL.out; rw [IntKind.wrap_i64]; omega
       by_cases hx : f0 i = f1 i
       · have HA2 : Hid (∀ j, j < i + 1 → f0 j = f1 j) := fun j hj => by
           by_cases hji : j = i
           · subst hji; exact hx
           · exact HA.out j (by omega)
         rw [← hx] at c2
         clear hx hb0 hb1
         generalize f0 i = x at *
         go_wp2_with fail
         go_quiet (fail)
         go_wp2_with fail
         exact ⟨⟨i + 1, ⟨by omega, HA2.out⟩, by go_num, _, rfl⟩, by simp [intOf]; omega⟩
       · have HF := HN.out i h8 hx
         clear hb0 hb1
         obtain ⟨x, hx1⟩ : ∃ x, f0 i = x := ⟨_, rfl⟩
         obtain ⟨y, hy1⟩ : ∃ y, f1 i = y := ⟨_, rfl⟩
         rw [hx1] at c1 hx
         rw [hy1] at c2 hx
         have hxy : ¬ (x : Int) = (y : Int) := by omega
         clear hx hx1 hy1
         subst HF
         go_wp2_with fail
         go_quiet (fail)
         go_wp2_with fail
         go_ret
         exact ⟨rfl, ((Chg.refl w []).drewN q).drewN _⟩
     · have hI : ¬ (i : Int) < (n0 : Int) := by omega
       have HT := HY.out (fun j hj => HA.out j (by omega))
       subst HT
       go_wp2_with fail
       go_ret
       exact ⟨rfl, (Chg.refl w []).drewN q⟩
 · have hI : ¬ (n0 : Int) = (n1 : Int) := by omega
   have HF : eqB n0 f0 n1 f1 = false := by unfold eqB; simp [hn]
   rw [HF]
   clear HF hn b0 b1
   go_enter Tryz.func10, Tryz.ntmps10
   go_wp2_with fail
   go_ret
   exact ⟨rfl, Chg.refl w []⟩
theorem SameCommitments_w (v0 : Value) (n0 : Nat) (d0 : Nat → Int) (h0 b0 : Nat → Nat → Nat) (v1 : Value) (n1 : Nat) (d1 : Nat → Int) (h1 b1 : Nat → Nat → Nat) (w : World) (H0 : Cl w v0 n0 d0 h0 b0) (H1 : Cl w v1 n1 d1 h1 b1) :
   Calls Tryz.prog 52 #[v0, v1] w fun e w' => e = .returned (.bool (eqCl n0 d0 h0 b0 n1 d1 h1 b1)) ∧ Chg w w' [] := by
 have HL : Hid (n0 ≤ 9223372036854775807) := by
   rcases H0.1.2 with ⟨h, _⟩ | ⟨_, _, _, _, a, b, _⟩
   · show n0 ≤ 9223372036854775807; omega
   · show n0 ≤ 9223372036854775807; omega
 obtain ⟨p0, c0, rfl, q0⟩ := H0.1.form
 obtain ⟨p1, c1, rfl, q1⟩ := H1.1.form
 clear H0 H1
 by_cases hn : n0 = n1
 · subst hn
   have HY : Hid ((∀ i, i < n0 → eqCm (d0 i) (h0 i) (b0 i) (d1 i) (h1 i) (b1 i) = true) → eqCl n0 d0 h0 b0 n0 d1 h1 b1 = true) := fun h => (eqCl_iff _ _ _ _ _ _ _ _).2 ⟨rfl, h⟩
   have HN : Hid (∀ i, i < n0 → eqCm (d0 i) (h0 i) (b0 i) (d1 i) (h1 i) (b1 i) = false → eqCl n0 d0 h0 b0 n0 d1 h1 b1 = false) := fun i hi h => Bool.eq_false_iff.2 fun q => by
     rw [((eqCl_iff _ _ _ _ _ _ _ _).1 q).2 i hi] at h
     cases h
   obtain ⟨b, hb⟩ : ∃ b, eqCl n0 d0 h0 b0 n0 d1 h1 b1 = b := ⟨_, rfl⟩
   rw [hb] at HY HN ⊢
   clear hb
   have HB : Hid (∀ i, i < n0 → (∃ g o, p0 = some ⟨g, o, none⟩ ∧ g < w.heap.size ∧ w.rangeAt g (o + i * 65) (cF d0 h0 b0 i)) ∧ ∃ g o, p1 = some ⟨g, o, none⟩ ∧ g < w.heap.size ∧ w.rangeAt g (o + i * 65) (cF d1 h1 b1 i)) := fun i h => ⟨q0 i h, q1 i h⟩
   clear q0 q1
   go_enter Tryz.func52, Tryz.ntmps52
   go_wp2_with fail
   go_loopw [5] (fun t wr => ∃ i : Nat, (i ≤ n0 ∧ ∀ j, j < i → eqCm (d0 j) (h0 j) (b0 j) (d1 j) (h1 j) (b1 j) = true) ∧ t = .int .i64 (i : Int) ∧ Chg w wr []) (fun t _ => ((n0 : Int) - intOf t).toNat)
   case atStart => exact ⟨0, ⟨by omega, fun j hj => by omega⟩, rfl, Chg.refl _ _⟩
   case round =>
     obtain ⟨i, ⟨hi, hall⟩, rfl, cC⟩ := hrel
     have HA : Hid (∀ j, j < i → eqCm (d0 j) (h0 j) (b0 j) (d1 j) (h1 j) (b1 j) = true) := hall
     clear hall
     by_cases h8 : i < n0
     · have hI : (i : Int) < (n0 : Int) := by omega
       have hI0 : (0 : Int) ≤ (i : Int) := by omega
       obtain ⟨⟨g0, o0, rfl, hg0, r0⟩, g1, o1, rfl, hg1, r1⟩ := HB.out i h8
       have R0 : wr.rangeAt g0 (o0 + i * 65) (cmL (d0 i) (h0 i) (b0 i)) := rangeAt_chg r0 hg0 cC (by simp)
       have R1 : wr.rangeAt g1 (o1 + i * 65) (cmL (d1 i) (h1 i) (b1 i)) := rangeAt_chg r1 hg1 cC (by simp)
       have G0 : Hid (g0 < wr.heap.size) := Nat.lt_of_lt_of_le hg0 cC.size
       have G1 : Hid (g1 < wr.heap.size) := Nat.lt_of_lt_of_le hg1 cC.size
       have e1 : IntKind.i64.wrap ((i : Int) + 1) = (i : Int) + 1 := by have := HL.out; rw [IntKind.wrap_i64]; omega
       have HM : Hid (((n0 : Int) - intOf (.int .i64 ((i : Int) + 1))).toNat < ((n0 : Int) - intOf (.int .i64 (i : Int))).toNat) := by show ((n0 : Int) - intOf (.int .i64 ((i : Int) + 1))).toNat < ((n0 : Int) - intOf (.int .i64 (i : Int))).toNat; simp [intOf] <;> omega
       have HI : Hid (i < n0) := h8
       clear r0 r1 hg0 hg1 h8 hi
       obtain ⟨q, hq⟩ : ∃ q, eqCm (d0 i) (h0 i) (b0 i) (d1 i) (h1 i) (b1 i) = q := ⟨_, rfl⟩
       have HQ : Hid (eqCm (d0 i) (h0 i) (b0 i) (d1 i) (h1 i) (b1 i) = q) := hq
       clear hq
       go_wp2_with fail
       refine lt_begin (fun w' => w'.rangeAt g0 (o0 + i * 65) (cmL (d0 i) (h0 i) (b0 i)) ∧ w'.rangeAt g1 (o1 + i * 65) (cmL (d1 i) (h1 i) (b1 i))) (fun _ => false) (by kernel_rfl) ?_
       have hHeld : wr.drew.rangeAt g0 (o0 + i * 65) (cmL (d0 i) (h0 i) (b0 i)) ∧ wr.drew.rangeAt g1 (o1 + i * 65) (cmL (d1 i) (h1 i) (b1 i)) := ⟨R0, R1⟩
       have C3 := cC.drew
       obtain ⟨z, hz⟩ : ∃ z, z = wr.drew := ⟨_, rfl⟩
       rw [← hz] at hHeld C3 ⊢
       clear hz R0 R1
       refine lv ?_ 0 (some 17) rfl (fun w => ?_) ?_; rotate_left; (· (go_simp; try with_reducible rfl)); try simp only [Act.put, sA]
       refine lv ?_ 1 (some 18) rfl (fun w => ?_) ?_; rotate_left; (· (go_simp; try with_reducible rfl)); try simp only [Act.put, sA]
       refine lv ?_ 2 (some 19) rfl (fun w => ?_) ?_; rotate_left; (· (go_simp; try with_reducible rfl)); try simp only [Act.put, sA]
       refine lr (.agg (cmL (d0 i) (h0 i) (b0 i)).toArray) 3 (some 20) rfl (fun w hSw => ?_) hHeld ?_
       · exact exec_load_m w 27 _ rfl g0 (o0 + i * 65) rfl (cmL (d0 i) (h0 i) (b0 i)) _ hSw.1 Tryz.underlying27 rfl (by rw [cmL_len]; exact cmtInfo)
       try simp only [Act.put, sA]
       refine lv ?_ 4 (some 21) rfl (fun w => ?_) ?_; rotate_left; (· (go_simp; try with_reducible rfl)); try simp only [Act.put, sA]
       refine lv ?_ 5 (some 22) rfl (fun w => ?_) ?_; rotate_left; (· (go_simp; try with_reducible rfl)); try simp only [Act.put, sA]
       refine lv ?_ 6 (some 23) rfl (fun w => ?_) ?_; rotate_left; (· (go_simp; try with_reducible rfl)); try simp only [Act.put, sA]
       refine lr (.agg (cmL (d1 i) (h1 i) (b1 i)).toArray) 7 (some 24) rfl (fun w hSw => ?_) hHeld ?_
       · exact exec_load_m w 27 _ rfl g1 (o1 + i * 65) rfl (cmL (d1 i) (h1 i) (b1 i)) _ hSw.2 Tryz.underlying27 rfl (by rw [cmL_len]; exact cmtInfo)
       try simp only [Act.put, sA]
       refine lv (.bool (!q)) 8 (some 25) rfl (fun w => ?_) ?_; (· (rw [← HQ.out]; exact exec_neq_cm w (.tmp 20) (.tmp 24) rfl _ _ _ _ _ _ rfl rfl)); try simp only [Act.put, sA]
       refine lt_done (by kernel_rfl) ?_ _
       cases q with
       | true =>
         go_wp2_with fail
         refine ⟨⟨i + 1, ⟨HI.out, fun j hj => ?_⟩, by go_num, C3⟩, HM.out⟩
         by_cases hji : j = i
         · subst hji; exact HQ.out
         · exact HA.out j (by omega)
       | false =>
         have HF := HN.out i HI.out HQ.out
         subst HF
         go_wp2_with fail
         go_ret
         exact ⟨rfl, C3⟩
     · have hI : ¬ (i : Int) < (n0 : Int) := by omega
       have HT := HY.out (fun j hj => HA.out j (by omega))
       subst HT
       go_wp2_with fail
       go_ret
       exact ⟨rfl, cC⟩
 · have hI : ¬ (n0 : Int) = (n1 : Int) := by omega
   have HF : eqCl n0 d0 h0 b0 n1 d1 h1 b1 = false := Bool.eq_false_iff.2 fun q => hn ((eqCl_iff _ _ _ _ _ _ _ _).1 q).1
   rw [HF]
   clear HF hn q0 q1
   go_enter Tryz.func52, Tryz.ntmps52
   go_wp2_with fail
   go_ret
   exact ⟨rfl, Chg.refl w []⟩
end Go.Proofs.YtgjclegpnbjlkaaGreatDoor
