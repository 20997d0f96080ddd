/- Joined: GvSc, GvIN, ShR2, GvIH. -/
import Derived.Test.YtoafcaieifjoiaaGreatMgU
import Derived.Test.YtoafcaieifjoiaaGreatMgZ
import Derived.Test.YtoafcaieifjoiaaGreatMgO
import Derived.Test.YtoafcaieifjoiaaGreatMgP
import Derived.Test.YtoafcaieifjoiaaGreatMgD
import Derived.Test.YtoafcaieifjoiaaGreatMgE
/- rimeplain: markScalars, CopyScalars. -/
set_option linter.unusedVariables false
set_option linter.unusedSimpArgs false
set_option linter.unnecessarySimpa false
namespace Go.Proofs.YtoafcaieifjoiaaGreat
open Go.RowKit N

/-- Rows that are numbers. -/
abbrev fR (f : Nat → Nat) : Nat → List Value := fun i => feL ((f i : Nat) : Int)
theorem feL_ok (n : Int) : (feL n).length = 32 ∧ ∀ v ∈ feL n, v.oneCell' = true := ⟨feL_len n, by intro v hv; simp [feL] at hv; rcases hv with rfl | rfl | rfl | rfl | rfl | rfl | rfl | rfl | rfl | rfl | rfl | rfl | rfl | rfl | rfl | rfl | rfl | rfl | rfl | rfl | rfl | rfl | rfl | rfl | rfl | rfl | rfl | rfl | rfl | rfl | rfl | rfl <;> rfl⟩
theorem fR_ok (m : Nat) (f : Nat → Nat) : Rok 32 m (fR f) := fun i _ => feL_ok _
theorem Fc.range' {w : World} {g o : Nat} {n : Int} (h : Fc w g o n) : w.rangeAt g o (feL n) := fun j v hv => by
  have hj : j < 32 := by
    have := (List.getElem?_eq_some_iff.1 hv).1
    rw [feL_len] at this
    exact this
  rw [h.cell j hj]
  have e := feC_get n j hj
  have e2 : (feC n)[j]? = some v := by
    have h' : (feL n).toArray[j]? = some v := by simpa using hv
    exact h'
  rw [e] at e2
  exact e2
theorem Fc.ofRange {w : World} {g o : Nat} {n : Int} (h : w.rangeAt g o (feL n)) (hg : g < w.heap.size) : Fc w g o n := ⟨hg, fun i hi => by
  have e := feC_get n i hi
  have e2 : (feL n)[i]? = some (.int .u8 (by8 n i)) := by rw [← e]; simp
  exact h i _ e2⟩
theorem Ls.rl {w : World} {v : Value} {N : Nat} {f : Nat → Nat} (h : Ls w v N f) : Rl w 32 v N (fR f) := by
  refine ⟨fR_ok N f, ?_⟩
  rcases h.2 with h2 | ⟨g, o, cap, e, h1, h2, h3, h4⟩
  · exact Or.inl h2
  · exact Or.inr ⟨g, o, cap, e, h1, h2, h3, fun i hi => (h4 i hi).range'⟩
theorem Rl.ls {w : World} {v : Value} {N : Nat} {f : Nat → Nat} (h : Rl w 32 v N (fR f)) (hf : ∀ i, i < N → f i < 115792089237316195423570985008687907853269984665640564039457584007913129639936) : Ls w v N f := by
  refine ⟨hf, ?_⟩
  rcases h.2 with h2 | ⟨g, o, cap, e, h1, h2, h3, h4⟩
  · exact Or.inl h2
  · exact Or.inr ⟨g, o, cap, e, h1, h2, h3, fun i hi => Fc.ofRange (h4 i hi) h3⟩
end Go.Proofs.YtoafcaieifjoiaaGreat

/- rimeplain.SameInts; (*Given).Intact, where ints and scalars were handed in. -/
namespace Go.Proofs.YtoafcaieifjoiaaGreat
open Go.RowKit N

theorem Rl.il {w : World} {v : Value} {N : Nat} {f : Nat → Int} (h : Rl w 1 v N (iF f)) : Il w v N f := by
  rcases h.2 with h2 | ⟨g, o, cap, e, h1, h2, h3, h4⟩
  · exact Or.inl h2
  · refine Or.inr ⟨g, o, cap, e, h1, h2, h3, fun i hi => ?_⟩
    have := h4 i hi 0 (.int .i64 (f i)) rfl
    rwa [Nat.mul_one, Nat.add_zero] at this
set_option maxHeartbeats 8000000 in
set_option maxRecDepth 100000 in
theorem SameInts_j (v u : Value) (N : Nat) (f : Nat → Int) (hN : N ≤ 140737488355328) (w : World) (hL : Il w v N f) (hU : Il w u N f) :
    Calls Tryz.prog 36 #[v, u] w fun e w' => e = .returned (.bool true) ∧ Chg w w' [] := by
  obtain ⟨p, cp, rfl, hp⟩ := hL.form
  obtain ⟨p', cp', rfl, hp'⟩ := hU.form
  go_enter Tryz.func36, Tryz.ntmps36
  go_wp2_with fail
  go_loopw [5] (fun t wr => ∃ i : Nat, i ≤ N ∧ t = .int .i64 (i : Int) ∧ Chg w wr []) (fun t _ => (N - intOf t).toNat)
  case atStart => exact ⟨0, Nat.zero_le _, rfl, Chg.refl _ _⟩
  case round =>
    obtain ⟨i, hi, rfl, cC⟩ := hrel
    by_cases h : i < N
    · have hI : (i : Int) < (N : Int) := by omega
      have hI0 : (0 : Int) ≤ (i : Int) := by omega
      have HM : Hid _ := mN N i h
      have HI1 : Hid (i + 1 ≤ N) := h
      obtain ⟨g, o, rfl, hg, hF⟩ := hp i h
      obtain ⟨g', o', rfl, hg', hG0⟩ := hp' i h
      have HK : Hid (wr.cell? ⟨g, o + i, none⟩ = some (.int .i64 (f i))) := cell_chg hF hg cC (by simp)
      have HI : Hid (wr.cell? ⟨g', o' + i, none⟩ = some (.int .i64 (f i))) := cell_chg hG0 hg' cC (by simp)
      have HG : Hid (g < wr.heap.size) := Nat.lt_of_lt_of_le hg cC.size
      have HG2 : Hid (g' < wr.heap.size) := Nat.lt_of_lt_of_le hg' cC.size
      clear hp hp' h hi hF hg hG0 hg' hL hU
      go_wp2_with fail
      refine wp_region_held_drew (S := fun w' => Chg wr w' []) (by kernel_rfl) ((Chg.refl wr _).drew) (fun hHeld => ?_)
      refine tv (v := ?_) 0 (some 17) rfl (by kernel_rfl) (fun _ _ _ h => h) rfl rfl (fun w hSw => ?_) hHeld ?_; rotate_left; (· (go_simp; try with_reducible rfl)); try simp only [Act.put, sA1, sA2, sA3]
      refine tv (v := ?_) 1 (some 18) rfl (by kernel_rfl) (fun _ _ _ h => h) rfl rfl (fun w hSw => ?_) hHeld ?_; rotate_left; (· (go_simp; try with_reducible rfl)); try simp only [Act.put, sA1, sA2, sA3]
      refine tv (v := ?_) 2 (some 19) rfl (by kernel_rfl) (fun _ _ _ h => h) rfl rfl (fun w hSw => ?_) hHeld ?_; rotate_left; (· (go_simp; try with_reducible rfl)); try simp only [Act.put, sA1, sA2, sA3]
      refine tv (v := (.int .i64 (f i))) 3 (some 20) rfl (by kernel_rfl) (fun _ _ _ h => h) rfl rfl (fun w hSw => ?_) hHeld ?_
      · have cx := cell_chg HK.out HG.out hSw (by simp)
        (go_simp; try with_reducible rfl)
      try simp only [Act.put, sA1, sA2, sA3]
      refine tv (v := ?_) 4 (some 21) rfl (by kernel_rfl) (fun _ _ _ h => h) rfl rfl (fun w hSw => ?_) hHeld ?_; rotate_left; (· (go_simp; try with_reducible rfl)); try simp only [Act.put, sA1, sA2, sA3]
      refine tv (v := ?_) 5 (some 22) rfl (by kernel_rfl) (fun _ _ _ h => h) rfl rfl (fun w hSw => ?_) hHeld ?_; rotate_left; (· (go_simp; try with_reducible rfl)); try simp only [Act.put, sA1, sA2, sA3]
      refine tv (v := ?_) 6 (some 23) rfl (by kernel_rfl) (fun _ _ _ h => h) rfl rfl (fun w hSw => ?_) hHeld ?_; rotate_left; (· (go_simp; try with_reducible rfl)); try simp only [Act.put, sA1, sA2, sA3]
      refine tv (v := (.int .i64 (f i))) 7 (some 24) rfl (by kernel_rfl) (fun _ _ _ h => h) rfl rfl (fun w hSw => ?_) hHeld ?_
      · have cx := cell_chg HI.out HG2.out hSw (by simp)
        (go_simp; try with_reducible rfl)
      try simp only [Act.put, sA1, sA2, sA3]
      refine tv (v := ?_) 8 (some 25) rfl (by kernel_rfl) (fun _ _ _ h => h) rfl rfl (fun w hSw => ?_) hHeld ?_; rotate_left; (· (go_simp; try with_reducible rfl)); try simp only [Act.put, sA1, sA2, sA3]
      refine wpAnyH_done (by kernel_rfl) ?_ _
      go_wp2_with fail
      exact ⟨⟨i + 1, HI1.out, by go_num, cC.trans1 hHeld⟩, HM.out⟩
    · have hI : ¬ (i : Int) < (N : Int) := by omega
      go_wp2_with fail
      go_ret
      exact ⟨rfl, cC⟩
end Go.Proofs.YtoafcaieifjoiaaGreat

/- rimeplain.SameShares; rimeref07.Split. -/
namespace Go.Proofs.YtoafcaieifjoiaaGreat
open Go.RowKit N

/-! ### == on shares -/
theorem shUnder : Tryz.prog.underlying 96 = some (.struct (Tryz.prog.fieldsOf 96)) := by kernel_rfl
theorem shStood : Tryz.prog.stoodInHeld 96 = false := by kernel_rfl
theorem shGuard : Tryz.prog.eqGuardType Tryz.prog.depth 96 = false := by kernel_rfl
theorem shFs : ∃ f0 f1 : Field, (Tryz.prog.fieldsOf 96).toList = [f0, f1] ∧ f0.name = "ID" ∧ f0.type = 3 ∧ f0.offset = 0 ∧ f1.name = "Value" ∧ f1.type = 24 ∧ f1.offset = 1 := by
  have h : ((Tryz.prog.fieldsOf 96).toList.map fun f => (f.name, f.type, f.offset)) = [("ID", 3, 0), ("Value", 24, 1)] := by kernel_rfl
  generalize (Tryz.prog.fieldsOf 96).toList = l at h
  rcases l with _ | ⟨f0, _ | ⟨f1, _ | ⟨f2, l⟩⟩⟩
  · simp at h
  · simp at h
  · simp only [List.map_cons, List.map_nil, List.cons.injEq, Prod.mk.injEq, and_true] at h
    exact ⟨f0, f1, rfl, h.1.1, h.1.2.1, h.1.2.2, h.2.1, h.2.2.1, h.2.2.2⟩
  · simp at h
theorem eq_fe9 (n m : Int) (w : World) : (Op.equalIn 9999 24 (.agg (feC n)) (.agg (feC m))).run Tryz.prog w = .ok (eqf n m) w := by
  obtain ⟨i, hi⟩ := u8Info
  rw [show (9999 : Nat) = 9997 + 1 + 1 from rfl, run_equalIn_array w 9998 _ _ Tryz.underlying24 hi, u8Cells]
  exact eqItems_ints w 9997 Tryz.underlying5 _ _ (by8 n) (by8 m) (List.range 32) (fun j hj => ⟨feC_get n j (by simpa using hj), feC_get m j (by simpa using hj)⟩)
theorem part_id (d y : Int) (w : World) : (part 3 (shC d y) 0).run Tryz.prog w = .ok (.int .i64 d) w := by
  have h : (shC d y)[0]? = some (.int .i64 d) := rfl
  unfold part isAgg
  simp only [Sem.run_bind, run_underlying Tryz.underlying3, Result.andThen_ok, Sem.run_pure, h]
  rfl
theorem part_val (d y : Int) (w : World) : (part 24 (shC d y) 1).run Tryz.prog w = .ok (.agg (feC y)) w := by
  have h : (shC d y).extract 1 (1 + 32) = feC y := by kernel_rfl
  obtain ⟨ii, hi, hz, h1, h2⟩ := scRowL
  unfold part isAgg sizeOf typeInfo
  simp [Sem.run_bind, run_underlying Tryz.underlying24, hi, h1, run_program]
  exact h
theorem eq_sh (d y : Int) (w : World) : (Op.equalIn 10000 96 (.agg (shC d y)) (.agg (shC d y))).run Tryz.prog w = .ok true w := by
  obtain ⟨f0, f1, hl, n0, t0, o0, n1, t1, o1⟩ := shFs
  rw [show (10000 : Nat) = 9999 + 1 from rfl, run_equalIn_struct w 9999 _ _ _ shUnder shStood, hl]
  simp only [Op.eqFields, n0, n1, t0, t1, o0, o1, ne_eq, Sem.run_bind, part_id, part_val, Result.andThen_ok]
  rw [if_pos (by decide)]
  have e3 : (Op.equalIn 9999 3 (.int .i64 d) (.int .i64 d)).run Tryz.prog w = .ok (d == d) w := run_equalIn_int w 9998 _ .i64 _ d d Tryz.underlying3
  simp only [Sem.run_bind, part_id, Result.andThen_ok, e3, beq_self_eq_true, Bool.not_true, Bool.false_eq_true, if_false]
  rw [if_pos (by decide)]
  simp only [Sem.run_bind, part_val, Result.andThen_ok, eq_fe9, eqf_self, Bool.not_true, Bool.false_eq_true, if_false, Sem.run_pure]
theorem exec_neq_sh {op : Oper} {a : Act} (w : World) (x z : Operand) (ho : op.op = .binOp .neq 96 x z 96) (d y : Int) (hx : a.eval x = .agg (shC d y)) (hz : a.eval z = .agg (shC d y)) : (execOp a.eval op).run Tryz.prog w = .ok (.value (.bool false)) w := by
  have hg := shGuard
  unfold execOp
  simp only [ho, hx, hz]
  simp only [Sem.run_bind, run_eqGuard_agg w _ _ _ _ _ _ hg, run_neq_struct, eq_sh, Result.andThen_ok, Sem.run_pure, Bool.not_true]
set_option maxHeartbeats 8000000 in
set_option maxRecDepth 100000 in
theorem SameShares_t (v u : Value) (N : Nat) (d y : Nat → Int) (hN : N ≤ 140737488355328) (w : World) (hL : Hl w v N d y) (hU : Hl w u N d y) :
    Calls Tryz.prog 17 #[v, u] w fun e w' => e = .returned (.bool true) ∧ Chg w w' [] := by
  obtain ⟨p, cp, rfl, hp⟩ := hL.1.form
  obtain ⟨p', cp', rfl, hp'⟩ := hU.1.form
  go_enter Tryz.func17, Tryz.ntmps17
  go_wp2_with fail
  go_loopw [5] (fun t wr => ∃ i : Nat, i ≤ N ∧ t = .int .i64 (i : Int) ∧ Chg w wr []) (fun t _ => (N - intOf t).toNat)
  case atStart => exact ⟨0, Nat.zero_le _, rfl, Chg.refl _ _⟩
  case round =>
    obtain ⟨i, hi, rfl, cC⟩ := hrel
    by_cases h : i < N
    · have hI : (i : Int) < (N : Int) := by omega
      have hI0 : (0 : Int) ≤ (i : Int) := by omega
      have HM : Hid _ := mN N i h
      have HI1 : Hid (i + 1 ≤ N) := h
      obtain ⟨g, o, rfl, hg, hF⟩ := hp i h
      obtain ⟨g', o', rfl, hg', hG0⟩ := hp' i h
      have hF' : wr.rangeAt g (o + i * 33) (.int .i64 (d i) :: feL (y i)) := rangeAt_chg hF hg cC (by simp)
      have hG' : wr.rangeAt g' (o' + i * 33) (.int .i64 (d i) :: feL (y i)) := rangeAt_chg hG0 hg' cC (by simp)
      have HG : Hid (g < wr.heap.size) := Nat.lt_of_lt_of_le hg cC.size
      have HG2 : Hid (g' < wr.heap.size) := Nat.lt_of_lt_of_le hg' cC.size
      clear hp hp' h hi hF hg hG0 hg' hL hU
      go_wp2_with fail
      refine wp_region_held_drew (S := fun w' => Chg wr w' []) (by kernel_rfl) ((Chg.refl wr _).drew) (fun hHeld => ?_)
      refine tv (v := ?_) 0 (some 17) rfl (by kernel_rfl) (fun _ _ _ h => h) rfl rfl (fun w hSw => ?_) hHeld ?_; rotate_left; (· (go_simp; try with_reducible rfl)); try simp only [Act.put, sA1, sA2, sA3]
      refine tv (v := ?_) 1 (some 18) rfl (by kernel_rfl) (fun _ _ _ h => h) rfl rfl (fun w hSw => ?_) hHeld ?_; rotate_left; (· (go_simp; try with_reducible rfl)); try simp only [Act.put, sA1, sA2, sA3]
      refine tv (v := ?_) 2 (some 19) rfl (by kernel_rfl) (fun _ _ _ h => h) rfl rfl (fun w hSw => ?_) hHeld ?_; rotate_left; (· (go_simp; try with_reducible rfl)); try simp only [Act.put, sA1, sA2, sA3]
      refine tv (v := (.agg (shC (d i) (y i)))) 3 (some 20) rfl (by kernel_rfl) (fun _ _ _ h => h) rfl rfl (fun w hSw => ?_) hHeld ?_
      · exact exec_load_m w 96 _ rfl g (o + i * 33) rfl (.int .i64 (d i) :: feL (y i)) _ (rangeAt_chg hF' HG.out hSw (by simp)) Tryz.underlying96 rfl shInfo
      try simp only [Act.put, sA1, sA2, sA3]
      refine tv (v := ?_) 4 (some 21) rfl (by kernel_rfl) (fun _ _ _ h => h) rfl rfl (fun w hSw => ?_) hHeld ?_; rotate_left; (· (go_simp; try with_reducible rfl)); try simp only [Act.put, sA1, sA2, sA3]
      refine tv (v := ?_) 5 (some 22) rfl (by kernel_rfl) (fun _ _ _ h => h) rfl rfl (fun w hSw => ?_) hHeld ?_; rotate_left; (· (go_simp; try with_reducible rfl)); try simp only [Act.put, sA1, sA2, sA3]
      refine tv (v := ?_) 6 (some 23) rfl (by kernel_rfl) (fun _ _ _ h => h) rfl rfl (fun w hSw => ?_) hHeld ?_; rotate_left; (· (go_simp; try with_reducible rfl)); try simp only [Act.put, sA1, sA2, sA3]
      refine tv (v := (.agg (shC (d i) (y i)))) 7 (some 24) rfl (by kernel_rfl) (fun _ _ _ h => h) rfl rfl (fun w hSw => ?_) hHeld ?_
      · exact exec_load_m w 96 _ rfl g' (o' + i * 33) rfl (.int .i64 (d i) :: feL (y i)) _ (rangeAt_chg hG' HG2.out hSw (by simp)) Tryz.underlying96 rfl shInfo
      try simp only [Act.put, sA1, sA2, sA3]
      refine tv (v := (.bool false)) 8 (some 25) rfl (by kernel_rfl) (fun _ _ _ h => h) rfl rfl (fun w hSw => ?_) hHeld ?_
      · exact exec_neq_sh w (.tmp 20) (.tmp 24) rfl (d i) (y i) rfl rfl
      try simp only [Act.put, sA1, sA2, sA3]
      refine wpAnyH_done (by kernel_rfl) ?_ _
      go_wp2_with fail
      exact ⟨⟨i + 1, HI1.out, by go_num, cC.trans1 hHeld⟩, HM.out⟩
    · have hI : ¬ (i : Int) < (N : Int) := by omega
      go_wp2_with fail
      go_ret
      exact ⟨rfl, cC⟩

/-! ### Split -/
/-- The first k shares. -/
def spL (d E : Nat → Int) (k : Nat) : List (Int × Int) := (List.range k).map fun j => (d j, E j)
theorem spL_len (d E : Nat → Int) (k : Nat) : (spL d E k).length = k := by simp [spL]
theorem spL_get (d E : Nat → Int) (k j : Nat) (h : j < k) : (spL d E k).getD j (0, 0) = (d j, E j) := by simp [spL, List.getD_eq_getElem?_getD, h]
theorem Oh.sp {w : World} {base : Nat} {v : Value} {d E : Nat → Int} {k : Nat} (h : Oh w base v (spL d E k)) (hy : ∀ j, j < k → R256 (E j)) : Hl w v k d E := by
  have q := OwnR.rl h
  rw [spL_len] at q
  refine ⟨?_, hy⟩
  obtain ⟨q1, q2⟩ := q
  refine ⟨hF_ok k d E, ?_⟩
  rcases q2 with q2 | ⟨g, o, cap, e, h1, h2, h3, h4⟩
  · exact Or.inl q2
  · refine Or.inr ⟨g, o, cap, e, h1, h2, h3, fun i hi => ?_⟩
    have := h4 i hi
    unfold oH at this
    rw [spL_get d E k i hi] at this
    exact this
end Go.Proofs.YtoafcaieifjoiaaGreat

/- (*Given).Intact, where shares were handed in; a Given with shares. -/
namespace Go.Proofs.YtoafcaieifjoiaaGreat
open Go.RowKit N

theorem cell_chgH {w w' : World} {g k : Nat} {v : Value} (h : w.cell? ⟨g, k, none⟩ = some v) (hc : Chg w w' []) : w'.cell? ⟨g, k, none⟩ = some v := by
  have hl : g < w.heap.size := by
    by_cases hl : g < w.heap.size
    · exact hl
    · simp [World.cell?, Array.getElem?_eq_none (Nat.le_of_not_lt hl)] at h
  rw [← h]
  simp only [World.cell?, hc.block g hl (by simp)]
/-- The lists at p as the walk reads them. -/
theorem Gv.readH {w : World} {gb base : Nat} {G : Nat → Value} {p : Nat} {TG TE T : TypeId} {s Kn : Nat} {N : Nat → Nat} {F : Nat → Nat → List Value} (h : Gv w gb base G p TG TE T s Kn N F) :
    ∃ pa ca pb cb, G p = .slice pa Kn ca ∧ G (p + 1) = .slice pb Kn cb ∧ ∀ j, j < Kn → ∃ lg mg x y, pa = some ⟨lg, 0, none⟩ ∧ pb = some ⟨mg, 0, none⟩ ∧ w.cell? ⟨lg, j, none⟩ = some x ∧ w.cell? ⟨mg, j, none⟩ = some y ∧ Rl w s x (N j) (F j) ∧ Rl w s y (N j) (F j) := by
  obtain ⟨vs, us, l1, l2, hd, hj⟩ := h.lists
  by_cases h0 : Kn = 0
  · subst h0
    have f1 : ∃ pa ca, G p = .slice pa 0 ca := by
      rcases l1.2 with ⟨e, _⟩ | ⟨g, cap, cur, e, _⟩
      · exact ⟨_, _, e⟩
      · exact ⟨_, _, e⟩
    have f2 : ∃ pa ca, G (p + 1) = .slice pa 0 ca := by
      rcases l2.2 with ⟨e, _⟩ | ⟨g, cap, cur, e, _⟩
      · exact ⟨_, _, e⟩
      · exact ⟨_, _, e⟩
    obtain ⟨pa, ca, e1⟩ := f1
    obtain ⟨pb, cb, e2⟩ := f2
    exact ⟨pa, ca, pb, cb, e1, e2, fun j hj => by omega⟩
  · obtain ⟨lg, ca, e1, _, _⟩ := l1.form (by omega)
    obtain ⟨mg, cb, e2, _, _⟩ := l2.form (by omega)
    refine ⟨_, ca, _, cb, e1, e2, fun j hjk => ?_⟩
    obtain ⟨o, x, q1, q2, q3, q4, q5⟩ := hj j hjk
    rw [e1] at l1
    rw [e2] at l2
    refine ⟨lg, mg, _, x, rfl, rfl, ownsRow_cell l1 q1, ownsRow_cell l2 q2, ⟨q5.2, Or.inr ⟨o, 0, N j, rfl, Nat.le_refl _, q3, q4.lt, fun i hi => ?_⟩⟩, q5.rl⟩
    rw [Nat.zero_add]
    exact q4.rangeRw q5.2 hi
def gNh : Nat → Value := fun _ => .slice none 0 0
theorem Gv.noneH {w : World} {gb base : Nat} {p : Nat} {TG TE T : TypeId} {s : Nat} (h : Blk w gb (gvC gNh) TG) (N : Nat → Nat) (F : Nat → Nat → List Value) : Gv w gb base gNh p TG TE T s 0 N F :=
  ⟨h, [], [], World.ownsRow_nil _ _ _ _, World.ownsRow_nil _ _ _ _, fun x hx => by simp [ob, gNh, Value.ownBlock] at hx, fun j hj => by omega⟩
theorem zeroGh : (Tryz.prog.info? 42).bind (·.zero) = some (.agg (gvC gNh)) := by kernel_rfl
theorem copy_hl {w : World} {o n m : Nat} {d y : Nat → Int} (h : Blk w o (rL 33 m (gvR mkHr (hF d y) n)).toArray 96) (hn : n ≤ m) (hm : m ≤ 9223372036854775807) (hy : ∀ j, j < n → R256 (y j)) : Hl w (.slice (some ⟨o, 0, none⟩) n m) n d y := by
  refine ⟨⟨hF_ok n d y, Or.inr ⟨o, 0, m, rfl, hn, hm, h.lt, fun i hi => ?_⟩⟩, hy⟩
  have q := h.rangeRw (gvR_ok mkH_ok (hF_ok n d y) n (Nat.le_refl _)) (show i < m by omega)
  have e : gvR mkHr (hF d y) n i = hF d y i := by unfold gvR; rw [if_pos hi]
  rw [e] at q
  rw [Nat.zero_add]
  exact q
theorem gv_shE (n : Nat) (d y : Nat → Int) (hy : ∀ j, j < n → R256 (y j)) : ∃ a b : Nat → Int, gvR mkHr (hF d y) n = hF a b ∧ ∀ j, R256 (b j) := by
  refine ⟨fun i => if i < n then d i else mkH i, fun i => if i < n then y i else 0, ?_, fun j => ?_⟩
  · funext i
    unfold gvR mkHr hF
    by_cases h : i < n
    · rw [if_pos h]; simp only [if_pos h]
    · rw [if_neg h]; simp only [if_neg h]
  · by_cases h : j < n
    · simp only [if_pos h]; exact hy j h
    · simp only [if_neg h]; exact r256_c0
set_option maxHeartbeats 16000000 in
set_option maxRecDepth 100000 in
theorem Intact_h (gb base Ka : Nat) (G : Nat → Value) (Na : Nat → Nat) (Fa : Nat → Nat → List Value) (w : World) (hA : Gv w gb base G 16 42 49 96 33 Ka Na Fa)
    (hz : ∀ q, q < 30 → ¬ q = 16 → ¬ q = 17 → G q = .slice none 0 0) (hNa : ∀ j, j < Ka → Na j ≤ 140737488355328)
    (hFa : ∀ j, j < Ka → ∃ a b : Nat → Int, Fa j = hF a b ∧ ∀ i, R256 (b i)) (hKa : Ka ≤ 1000) :
    Calls Tryz.prog 18 #[.pointer (some ⟨gb, 0, none⟩)] w fun e w' => e = .returned (.bool true) ∧ Chg w w' [] := by
  have hg := hA.gb
  obtain ⟨pa, ca, pb, cb, ea1, ea2, hrda⟩ := hA.readH
  have HZ : Hid (∀ q, q < 30 → ¬ q = 16 → ¬ q = 17 → G q = .slice none 0 0) := hz
  have HRDa : Hid (∀ j, j < Ka → ∃ lg mg x y, pa = some ⟨lg, 0, none⟩ ∧ pb = some ⟨mg, 0, none⟩ ∧ w.cell? ⟨lg, j, none⟩ = some x ∧ w.cell? ⟨mg, j, none⟩ = some y ∧ Rl w 33 x (Na j) (Fa j) ∧ Rl w 33 y (Na j) (Fa j)) := hrda
  have HNa : Hid (∀ j, j < Ka → Na j ≤ 140737488355328) := hNa
  have HFa : Hid (∀ j, j < Ka → ∃ a b : Nat → Int, Fa j = hF a b ∧ ∀ i, R256 (b i)) := hFa
  have HEa1 : Hid (G 16 = .slice pa Ka ca) := ea1
  have HEa2 : Hid (G 17 = .slice pb Ka cb) := ea2
  have HKa : Hid (Ka ≤ 1000) := hKa
  have HG : Hid (Blk w gb (gvC G) 42) := hg
  clear hz hrda hNa hFa ea1 ea2 hA hg hKa
  go_enter Tryz.func18, Tryz.ntmps18
  have cc : Chg w w [] := Chg.refl w []
  go_wp2_with fail
  go_loopw [3] (fun t wr => t = .int .i64 0 ∧ Chg w wr []) (fun _ _ => 0)
  case atStart => exact ⟨rfl, cc⟩
  case round =>
    clear cc
    obtain ⟨rfl, cc⟩ := hrel
    have c0 := ((HG.out.chg cc (by simp)).cell 0).trans (gvC_get G 0 (by decide))
    rw [HZ.out 0 (by decide) (by decide) (by decide)] at c0
    go_wp2_with fail
    go_loopw [4] (fun t wr => t = .int .i64 0 ∧ Chg w wr []) (fun _ _ => 0)
    case atStart => exact ⟨rfl, cc⟩
    case round =>
      clear cc c0
      obtain ⟨rfl, cc⟩ := hrel
      have c0 := ((HG.out.chg cc (by simp)).cell 2).trans (gvC_get G 2 (by decide))
      rw [HZ.out 2 (by decide) (by decide) (by decide)] at c0
      go_wp2_with fail
      go_loopw [5] (fun t wr => t = .int .i64 0 ∧ Chg w wr []) (fun _ _ => 0)
      case atStart => exact ⟨rfl, cc⟩
      case round =>
        clear cc c0
        obtain ⟨rfl, cc⟩ := hrel
        have c0 := ((HG.out.chg cc (by simp)).cell 4).trans (gvC_get G 4 (by decide))
        rw [HZ.out 4 (by decide) (by decide) (by decide)] at c0
        go_wp2_with fail
        go_loopw [6] (fun t wr => t = .int .i64 0 ∧ Chg w wr []) (fun _ _ => 0)
        case atStart => exact ⟨rfl, cc⟩
        case round =>
          clear cc c0
          obtain ⟨rfl, cc⟩ := hrel
          have c0 := ((HG.out.chg cc (by simp)).cell 6).trans (gvC_get G 6 (by decide))
          rw [HZ.out 6 (by decide) (by decide) (by decide)] at c0
          go_wp2_with fail
          go_loopw [7] (fun t wr => t = .int .i64 0 ∧ Chg w wr []) (fun _ _ => 0)
          case atStart => exact ⟨rfl, cc⟩
          case round =>
            clear cc c0
            obtain ⟨rfl, cc⟩ := hrel
            have c0 := ((HG.out.chg cc (by simp)).cell 8).trans (gvC_get G 8 (by decide))
            rw [HZ.out 8 (by decide) (by decide) (by decide)] at c0
            go_wp2_with fail
            go_loopw [8] (fun t wr => t = .int .i64 0 ∧ Chg w wr []) (fun _ _ => 0)
            case atStart => exact ⟨rfl, cc⟩
            case round =>
              clear cc c0
              obtain ⟨rfl, cc⟩ := hrel
              have c0 := ((HG.out.chg cc (by simp)).cell 10).trans (gvC_get G 10 (by decide))
              rw [HZ.out 10 (by decide) (by decide) (by decide)] at c0
              go_wp2_with fail
              go_loopw [9] (fun t wr => t = .int .i64 0 ∧ Chg w wr []) (fun _ _ => 0)
              case atStart => exact ⟨rfl, cc⟩
              case round =>
                clear cc c0
                obtain ⟨rfl, cc⟩ := hrel
                have c0 := ((HG.out.chg cc (by simp)).cell 12).trans (gvC_get G 12 (by decide))
                rw [HZ.out 12 (by decide) (by decide) (by decide)] at c0
                go_wp2_with fail
                go_loopw [10] (fun t wr => t = .int .i64 0 ∧ Chg w wr []) (fun _ _ => 0)
                case atStart => exact ⟨rfl, cc⟩
                case round =>
                  clear cc c0
                  obtain ⟨rfl, cc⟩ := hrel
                  have c0 := ((HG.out.chg cc (by simp)).cell 14).trans (gvC_get G 14 (by decide))
                  rw [HZ.out 14 (by decide) (by decide) (by decide)] at c0
                  go_wp2_with fail
                  go_loopw [11] (fun t wr => ∃ i : Nat, i ≤ Ka ∧ t = .int .i64 (i : Int) ∧ Chg w wr []) (fun t _ => ((Ka : Int) - intOf t).toNat)
                  case atStart => exact ⟨0, Nat.zero_le _, rfl, cc⟩
                  case round =>
                    clear cc c0
                    obtain ⟨ia, hi, rfl, cc⟩ := hrel
                    have c0 := ((HG.out.chg cc (by simp)).cell 16).trans (gvC_get G 16 (by decide))
                    rw [HEa1.out] at c0
                    by_cases h8 : ia < Ka
                    · have hI : (ia : Int) < (Ka : Int) := by omega
                      have hI0 : (0 : Int) ≤ (ia : Int) := by omega
                      have e1 : IntKind.i64.wrap ((ia : Int) + 1) = (ia : Int) + 1 := by have := HKa.out; rw [IntKind.wrap_i64]; omega
                      have HI1 : Hid (ia + 1 ≤ Ka) := h8
                      have HM : Hid (((Ka : Int) - intOf (.int .i64 ((ia : Int) + 1))).toNat < ((Ka : Int) - intOf (.int .i64 (ia : Int))).toNat) := by show ((Ka : Int) - intOf (.int .i64 ((ia : Int) + 1))).toNat < ((Ka : Int) - intOf (.int .i64 (ia : Int))).toNat; simp [intOf]; omega
                      obtain ⟨lg, mg, x, y, rfl, rfl, cl, cm, rx, ry⟩ := HRDa.out ia h8
                      obtain ⟨f1, f2, hf1, hf2⟩ := HFa.out ia h8
                      have HNI : Hid (Na ia ≤ 140737488355328) := HNa.out ia h8
                      have XL : Hid (Hl wr x (Na ia) f1 f2) := ⟨hf1 ▸ rx.chg cc (Off.nil _), fun j _ => hf2 j⟩
                      have YL : Hid (Hl wr y (Na ia) f1 f2) := ⟨hf1 ▸ ry.chg cc (Off.nil _), fun j _ => hf2 j⟩
                      have CL : Hid (wr.cell? ⟨lg, ia, none⟩ = some x) := cell_chgH cl cc
                      have CM : Hid (wr.cell? ⟨mg, ia, none⟩ = some y) := cell_chgH cm cc
                      have HGR : Hid (Blk wr gb (gvC G) 42) := HG.out.chg cc (by simp)
                      clear cl cm rx ry hf1 hf2 h8 hi HRDa HFa HNa
                      go_wp2_with fail
                      refine wp_region_held_drew (S := fun w' => Chg wr w' []) (by kernel_rfl) ((Chg.refl wr _).drew) (fun hHeld => ?_)
                      refine tv (v := ?_) 0 (some 227) rfl (by kernel_rfl) (fun _ _ _ h => h) rfl rfl (fun w hSw => ?_) hHeld ?_; rotate_left; (· (go_simp; try with_reducible rfl)); try simp only [Act.put, sA1, sA2, sA3]
                      refine tv (v := ?_) 1 (some 228) rfl (by kernel_rfl) (fun _ _ _ h => h) rfl rfl (fun w hSw => ?_) hHeld ?_; rotate_left; (· (go_simp; try with_reducible rfl)); try simp only [Act.put, sA1, sA2, sA3]
                      refine tv (v := ?_) 2 (some 229) rfl (by kernel_rfl) (fun _ _ _ h => h) rfl rfl (fun w hSw => ?_) hHeld ?_; rotate_left; (· (go_simp; try with_reducible rfl)); try simp only [Act.put, sA1, sA2, sA3]
                      refine tv (v := (Value.slice (some ⟨lg, 0, none⟩) Ka ca)) 3 (some 230) rfl (by kernel_rfl) (fun _ _ _ h => h) rfl rfl (fun w hSw => ?_) hHeld ?_
                      · have cx := (HGR.out.chg hSw (by simp)).cell 16
                        rw [gvC_get G 16 (by decide), HEa1.out] at cx
                        (go_simp; try with_reducible rfl)
                      try simp only [Act.put, sA1, sA2, sA3]
                      refine tv (v := ?_) 4 (some 231) rfl (by kernel_rfl) (fun _ _ _ h => h) rfl rfl (fun w hSw => ?_) hHeld ?_; rotate_left; (· (go_simp; try with_reducible rfl)); try simp only [Act.put, sA1, sA2, sA3]
                      refine tv (v := ?_) 5 (some 232) rfl (by kernel_rfl) (fun _ _ _ h => h) rfl rfl (fun w hSw => ?_) hHeld ?_; rotate_left; (· (go_simp; try with_reducible rfl)); try simp only [Act.put, sA1, sA2, sA3]
                      refine tv (v := (x)) 6 (some 233) rfl (by kernel_rfl) (fun _ _ _ h => h) rfl rfl (fun w hSw => ?_) hHeld ?_
                      · have cx := cell_chgH CL.out hSw
                        (go_simp; try with_reducible rfl)
                      try simp only [Act.put, sA1, sA2, sA3]
                      refine tv (v := ?_) 7 (some 234) rfl (by kernel_rfl) (fun _ _ _ h => h) rfl rfl (fun w hSw => ?_) hHeld ?_; rotate_left; (· (go_simp; try with_reducible rfl)); try simp only [Act.put, sA1, sA2, sA3]
                      refine tv (v := ?_) 8 (some 235) rfl (by kernel_rfl) (fun _ _ _ h => h) rfl rfl (fun w hSw => ?_) hHeld ?_; rotate_left; (· (go_simp; try with_reducible rfl)); try simp only [Act.put, sA1, sA2, sA3]
                      refine tv (v := ?_) 9 (some 236) rfl (by kernel_rfl) (fun _ _ _ h => h) rfl rfl (fun w hSw => ?_) hHeld ?_; rotate_left; (· (go_simp; try with_reducible rfl)); try simp only [Act.put, sA1, sA2, sA3]
                      refine tv (v := (Value.slice (some ⟨mg, 0, none⟩) Ka cb)) 10 (some 237) rfl (by kernel_rfl) (fun _ _ _ h => h) rfl rfl (fun w hSw => ?_) hHeld ?_
                      · have cx := (HGR.out.chg hSw (by simp)).cell 17
                        rw [gvC_get G 17 (by decide), HEa2.out] at cx
                        (go_simp; try with_reducible rfl)
                      try simp only [Act.put, sA1, sA2, sA3]
                      refine tv (v := ?_) 11 (some 238) rfl (by kernel_rfl) (fun _ _ _ h => h) rfl rfl (fun w hSw => ?_) hHeld ?_; rotate_left; (· (go_simp; try with_reducible rfl)); try simp only [Act.put, sA1, sA2, sA3]
                      refine tv (v := ?_) 12 (some 239) rfl (by kernel_rfl) (fun _ _ _ h => h) rfl rfl (fun w hSw => ?_) hHeld ?_; rotate_left; (· (go_simp; try with_reducible rfl)); try simp only [Act.put, sA1, sA2, sA3]
                      refine tv (v := (y)) 13 (some 240) rfl (by kernel_rfl) (fun _ _ _ h => h) rfl rfl (fun w hSw => ?_) hHeld ?_
                      · have cx := cell_chgH CM.out hSw
                        (go_simp; try with_reducible rfl)
                      try simp only [Act.put, sA1, sA2, sA3]
                      refine wpAnyH_ready (rs := [14]) (by kernel_rfl) (by simp) ?_
                      refine AllReadyH.cons (o := _) rfl (fun K hK => ?_) ?_
                      ·
                        go_simp
                        refine (SameShares_t x y (Na ia) f1 f2 HNI.out _ (XL.out.chg hHeld) (YL.out.chg hHeld)).mono ?_
                        rintro e v7 ⟨rfl, k7⟩
                        go_wp2_with fail
                        refine hK.out _ _ (hHeld.trans1 k7) (fun hHeld => ?_)
                        clear hK K
                        try simp only [Act.put, sA1, sA2, sA3]
                        refine tv (v := ?_) 15 (some 242) rfl (by kernel_rfl) (fun _ _ _ h => h) rfl rfl (fun w hSw => ?_) hHeld ?_; rotate_left; (· (go_simp; try with_reducible rfl)); try simp only [Act.put, sA1, sA2, sA3]
                        refine wpAnyH_done (by kernel_rfl) ?_ _
                        go_wp2_with fail
                        exact ⟨⟨ia + 1, HI1.out, by go_num, cc.trans1 hHeld⟩, HM.out⟩
                      exact AllReadyH.nil
                    · have h9 : ia = Ka := by omega
                      subst h9
                      have hIa : ¬ (ia : Int) < (ia : Int) := by omega
                      go_wp2_with fail
                      go_loopw [12] (fun t wr => t = .int .i64 0 ∧ Chg w wr []) (fun _ _ => 0)
                      case atStart => exact ⟨rfl, cc⟩
                      case round =>
                        clear cc c0
                        obtain ⟨rfl, cc⟩ := hrel
                        have c0 := ((HG.out.chg cc (by simp)).cell 18).trans (gvC_get G 18 (by decide))
                        rw [HZ.out 18 (by decide) (by decide) (by decide)] at c0
                        go_wp2_with fail
                        go_loopw [13] (fun t wr => t = .int .i64 0 ∧ Chg w wr []) (fun _ _ => 0)
                        case atStart => exact ⟨rfl, cc⟩
                        case round =>
                          clear cc c0
                          obtain ⟨rfl, cc⟩ := hrel
                          have c0 := ((HG.out.chg cc (by simp)).cell 20).trans (gvC_get G 20 (by decide))
                          rw [HZ.out 20 (by decide) (by decide) (by decide)] at c0
                          go_wp2_with fail
                          go_loopw [14] (fun t wr => t = .int .i64 0 ∧ Chg w wr []) (fun _ _ => 0)
                          case atStart => exact ⟨rfl, cc⟩
                          case round =>
                            clear cc c0
                            obtain ⟨rfl, cc⟩ := hrel
                            have c0 := ((HG.out.chg cc (by simp)).cell 22).trans (gvC_get G 22 (by decide))
                            rw [HZ.out 22 (by decide) (by decide) (by decide)] at c0
                            go_wp2_with fail
                            go_loopw [15] (fun t wr => t = .int .i64 0 ∧ Chg w wr []) (fun _ _ => 0)
                            case atStart => exact ⟨rfl, cc⟩
                            case round =>
                              clear cc c0
                              obtain ⟨rfl, cc⟩ := hrel
                              have c0 := ((HG.out.chg cc (by simp)).cell 24).trans (gvC_get G 24 (by decide))
                              rw [HZ.out 24 (by decide) (by decide) (by decide)] at c0
                              go_wp2_with fail
                              go_loopw [16] (fun t wr => t = .int .i64 0 ∧ Chg w wr []) (fun _ _ => 0)
                              case atStart => exact ⟨rfl, cc⟩
                              case round =>
                                clear cc c0
                                obtain ⟨rfl, cc⟩ := hrel
                                have c0 := ((HG.out.chg cc (by simp)).cell 26).trans (gvC_get G 26 (by decide))
                                rw [HZ.out 26 (by decide) (by decide) (by decide)] at c0
                                go_wp2_with fail
                                go_loopw [17] (fun t wr => t = .int .i64 0 ∧ Chg w wr []) (fun _ _ => 0)
                                case atStart => exact ⟨rfl, cc⟩
                                case round =>
                                  clear cc c0
                                  obtain ⟨rfl, cc⟩ := hrel
                                  have c0 := ((HG.out.chg cc (by simp)).cell 28).trans (gvC_get G 28 (by decide))
                                  rw [HZ.out 28 (by decide) (by decide) (by decide)] at c0
                                  go_wp2_with fail
                                  go_ret
                                  exact ⟨rfl, cc⟩
end Go.Proofs.YtoafcaieifjoiaaGreat
