/- rimeplain.SameShares; rimeref07.Split. -/
import Derived.Test.YtemjpibmefggnaaGreatMgP
import Derived.Test.YtemjpibmefggnaaGreatMgD
import Derived.Test.YtemjpibmefggnaaGreatMgE
set_option linter.unusedVariables false
set_option linter.unusedSimpArgs false
set_option linter.unnecessarySimpa false
namespace Go.Proofs.YtemjpibmefggnaaGreat
open Go.RowKit N

/-! ### == on shares -/
theorem shUnder : Tryz.prog.underlying 96 = some (.struct (Tryz.prog.fieldsOf 96)) := by kernel_rfl
theorem shStood : Tryz.prog.stoodInHeld 96 = false := by kernel_rfl
theorem shGuard : Tryz.prog.eqGuardType Tryz.prog.depth 96 = false := by kernel_rfl
theorem shFs : ∃ f0 f1 : Field, (Tryz.prog.fieldsOf 96).toList = [f0, f1] ∧ f0.name = "ID" ∧ f0.type = 3 ∧ f0.offset = 0 ∧ f1.name = "Value" ∧ f1.type = 24 ∧ f1.offset = 1 := by
  have h : ((Tryz.prog.fieldsOf 96).toList.map fun f => (f.name, f.type, f.offset)) = [("ID", 3, 0), ("Value", 24, 1)] := by kernel_rfl
  generalize (Tryz.prog.fieldsOf 96).toList = l at h
  rcases l with _ | ⟨f0, _ | ⟨f1, _ | ⟨f2, l⟩⟩⟩
  · simp at h
  · simp at h
  · simp only [List.map_cons, List.map_nil, List.cons.injEq, Prod.mk.injEq, and_true] at h
    exact ⟨f0, f1, rfl, h.1.1, h.1.2.1, h.1.2.2, h.2.1, h.2.2.1, h.2.2.2⟩
  · simp at h
theorem eq_fe9 (n m : Int) (w : World) : (Op.equalIn 9999 24 (.agg (feC n)) (.agg (feC m))).run Tryz.prog w = .ok (eqf n m) w := by
  obtain ⟨i, hi⟩ := u8Info
  rw [show (9999 : Nat) = 9997 + 1 + 1 from rfl, run_equalIn_array w 9998 _ _ Tryz.underlying24 hi, u8Cells]
  exact eqItems_ints w 9997 Tryz.underlying5 _ _ (by8 n) (by8 m) (List.range 32) (fun j hj => ⟨feC_get n j (by simpa using hj), feC_get m j (by simpa using hj)⟩)
theorem part_id (d y : Int) (w : World) : (part 3 (shC d y) 0).run Tryz.prog w = .ok (.int .i64 d) w := by
  have h : (shC d y)[0]? = some (.int .i64 d) := rfl
  unfold part isAgg
  simp only [Sem.run_bind, run_underlying Tryz.underlying3, Result.andThen_ok, Sem.run_pure, h]
  rfl
theorem part_val (d y : Int) (w : World) : (part 24 (shC d y) 1).run Tryz.prog w = .ok (.agg (feC y)) w := by
  have h : (shC d y).extract 1 (1 + 32) = feC y := by kernel_rfl
  obtain ⟨ii, hi, hz, h1, h2⟩ := scRowL
  unfold part isAgg sizeOf typeInfo
  simp [Sem.run_bind, run_underlying Tryz.underlying24, hi, h1, run_program]
  exact h
theorem eq_sh (d y : Int) (w : World) : (Op.equalIn 10000 96 (.agg (shC d y)) (.agg (shC d y))).run Tryz.prog w = .ok true w := by
  obtain ⟨f0, f1, hl, n0, t0, o0, n1, t1, o1⟩ := shFs
  rw [show (10000 : Nat) = 9999 + 1 from rfl, run_equalIn_struct w 9999 _ _ _ shUnder shStood, hl]
  simp only [Op.eqFields, n0, n1, t0, t1, o0, o1, ne_eq, Sem.run_bind, part_id, part_val, Result.andThen_ok]
  rw [if_pos (by decide)]
  have e3 : (Op.equalIn 9999 3 (.int .i64 d) (.int .i64 d)).run Tryz.prog w = .ok (d == d) w := run_equalIn_int w 9998 _ .i64 _ d d Tryz.underlying3
  simp only [Sem.run_bind, part_id, Result.andThen_ok, e3, beq_self_eq_true, Bool.not_true, Bool.false_eq_true, if_false]
  rw [if_pos (by decide)]
  simp only [Sem.run_bind, part_val, Result.andThen_ok, eq_fe9, eqf_self, Bool.not_true, Bool.false_eq_true, if_false, Sem.run_pure]
theorem exec_neq_sh {op : Oper} {a : Act} (w : World) (x z : Operand) (ho : op.op = .binOp .neq 96 x z 96) (d y : Int) (hx : a.eval x = .agg (shC d y)) (hz : a.eval z = .agg (shC d y)) : (execOp a.eval op).run Tryz.prog w = .ok (.value (.bool false)) w := by
  have hg := shGuard
  unfold execOp
  simp only [ho, hx, hz]
  simp only [Sem.run_bind, run_eqGuard_agg w _ _ _ _ _ _ hg, run_neq_struct, eq_sh, Result.andThen_ok, Sem.run_pure, Bool.not_true]
set_option maxHeartbeats 8000000 in
set_option maxRecDepth 100000 in
theorem SameShares_t (v u : Value) (N : Nat) (d y : Nat → Int) (hN : N ≤ 140737488355328) (w : World) (hL : Hl w v N d y) (hU : Hl w u N d y) :
    Calls Tryz.prog 17 #[v, u] w fun e w' => e = .returned (.bool true) ∧ Chg w w' [] := by
  obtain ⟨p, cp, rfl, hp⟩ := hL.1.form
  obtain ⟨p', cp', rfl, hp'⟩ := hU.1.form
  go_enter Tryz.func17, Tryz.ntmps17
  go_wp2_with fail
  go_loopw [5] (fun t wr => ∃ i : Nat, i ≤ N ∧ t = .int .i64 (i : Int) ∧ Chg w wr []) (fun t _ => (N - intOf t).toNat)
  case atStart => exact ⟨0, Nat.zero_le _, rfl, Chg.refl _ _⟩
  case round =>
    obtain ⟨i, hi, rfl, cC⟩ := hrel
    by_cases h : i < N
    · have hI : (i : Int) < (N : Int) := by omega
      have hI0 : (0 : Int) ≤ (i : Int) := by omega
      have HM : Hid _ := mN N i h
      have HI1 : Hid (i + 1 ≤ N) := h
      obtain ⟨g, o, rfl, hg, hF⟩ := hp i h
      obtain ⟨g', o', rfl, hg', hG0⟩ := hp' i h
      have hF' : wr.rangeAt g (o + i * 33) (.int .i64 (d i) :: feL (y i)) := rangeAt_chg hF hg cC (by simp)
      have hG' : wr.rangeAt g' (o' + i * 33) (.int .i64 (d i) :: feL (y i)) := rangeAt_chg hG0 hg' cC (by simp)
      have HG : Hid (g < wr.heap.size) := Nat.lt_of_lt_of_le hg cC.size
      have HG2 : Hid (g' < wr.heap.size) := Nat.lt_of_lt_of_le hg' cC.size
      clear hp hp' h hi hF hg hG0 hg' hL hU
      go_wp2_with fail
      refine wp_region_held_drew (S := fun w' => Chg wr w' []) (by kernel_rfl) ((Chg.refl wr _).drew) (fun hHeld => ?_)
      refine take_val (v := ?_) 0 (some 17) rfl (by kernel_rfl) (by kernel_rfl) (by kernel_rfl) (fun _ _ _ h => h) rfl rfl (fun w hSw => ?_) hHeld ?_
      rotate_left
      · (go_simp; try with_reducible rfl)
      try simp only [Act.put, List.setIfInBounds_toArray, List.set_cons_zero, List.set_cons_succ]
      refine take_val (v := ?_) 1 (some 18) rfl (by kernel_rfl) (by kernel_rfl) (by kernel_rfl) (fun _ _ _ h => h) rfl rfl (fun w hSw => ?_) hHeld ?_
      rotate_left
      · (go_simp; try with_reducible rfl)
      try simp only [Act.put, List.setIfInBounds_toArray, List.set_cons_zero, List.set_cons_succ]
      refine take_val (v := ?_) 2 (some 19) rfl (by kernel_rfl) (by kernel_rfl) (by kernel_rfl) (fun _ _ _ h => h) rfl rfl (fun w hSw => ?_) hHeld ?_
      rotate_left
      · (go_simp; try with_reducible rfl)
      try simp only [Act.put, List.setIfInBounds_toArray, List.set_cons_zero, List.set_cons_succ]
      refine take_val (v := (.agg (shC (d i) (y i)))) 3 (some 20) rfl (by kernel_rfl) (by kernel_rfl) (by kernel_rfl) (fun _ _ _ h => h) rfl rfl (fun w hSw => ?_) hHeld ?_
      · exact exec_load_m w 96 _ rfl g (o + i * 33) rfl (.int .i64 (d i) :: feL (y i)) _ (rangeAt_chg hF' HG.out hSw (by simp)) Tryz.underlying96 rfl shInfo
      try simp only [Act.put, List.setIfInBounds_toArray, List.set_cons_zero, List.set_cons_succ]
      refine take_val (v := ?_) 4 (some 21) rfl (by kernel_rfl) (by kernel_rfl) (by kernel_rfl) (fun _ _ _ h => h) rfl rfl (fun w hSw => ?_) hHeld ?_
      rotate_left
      · (go_simp; try with_reducible rfl)
      try simp only [Act.put, List.setIfInBounds_toArray, List.set_cons_zero, List.set_cons_succ]
      refine take_val (v := ?_) 5 (some 22) rfl (by kernel_rfl) (by kernel_rfl) (by kernel_rfl) (fun _ _ _ h => h) rfl rfl (fun w hSw => ?_) hHeld ?_
      rotate_left
      · (go_simp; try with_reducible rfl)
      try simp only [Act.put, List.setIfInBounds_toArray, List.set_cons_zero, List.set_cons_succ]
      refine take_val (v := ?_) 6 (some 23) rfl (by kernel_rfl) (by kernel_rfl) (by kernel_rfl) (fun _ _ _ h => h) rfl rfl (fun w hSw => ?_) hHeld ?_
      rotate_left
      · (go_simp; try with_reducible rfl)
      try simp only [Act.put, List.setIfInBounds_toArray, List.set_cons_zero, List.set_cons_succ]
      refine take_val (v := (.agg (shC (d i) (y i)))) 7 (some 24) rfl (by kernel_rfl) (by kernel_rfl) (by kernel_rfl) (fun _ _ _ h => h) rfl rfl (fun w hSw => ?_) hHeld ?_
      · exact exec_load_m w 96 _ rfl g' (o' + i * 33) rfl (.int .i64 (d i) :: feL (y i)) _ (rangeAt_chg hG' HG2.out hSw (by simp)) Tryz.underlying96 rfl shInfo
      try simp only [Act.put, List.setIfInBounds_toArray, List.set_cons_zero, List.set_cons_succ]
      refine take_val (v := (.bool false)) 8 (some 25) rfl (by kernel_rfl) (by kernel_rfl) (by kernel_rfl) (fun _ _ _ h => h) rfl rfl (fun w hSw => ?_) hHeld ?_
      · exact exec_neq_sh w (.tmp 20) (.tmp 24) rfl (d i) (y i) rfl rfl
      try simp only [Act.put, List.setIfInBounds_toArray, List.set_cons_zero, List.set_cons_succ]
      refine wpAnyH_done (by kernel_rfl) ?_ _
      go_wp2_with fail
      exact ⟨⟨i + 1, HI1.out, by go_num, cC.trans1 hHeld⟩, HM.out⟩
    · have hI : ¬ (i : Int) < (N : Int) := by omega
      go_wp2_with fail
      go_ret
      exact ⟨rfl, cC⟩

/-! ### Split -/
theorem wp_append_oh {w : World} {o : Oper} {a : Act} {K : Act → World → Prop} {Q : Exit → Act → World → Prop} (so xo : Operand)
    (ho : o.op = .call { callee := .builtin .append, args := #[so, xo], argTypes := #[49, 49] })
    (base : Nat) (v : Value) (gx : Nat) (l : List (Int × Int)) (d y : Int) (hs : a.eval so = v) (hxe : a.eval xo = .slice (some ⟨gx, 0, none⟩) 1 1) (hown : Oh w base v l) (hx : Blk w gx (shC d y) 96) (hl : l.length ≤ 1000000) (hbase : base ≤ w.heap.size)
    (h : ∀ v' w', Oh w' base v' (l ++ [(d, y)]) → Chg w w' (ob v) → K (a.put o.dst v') w') : o.wp Tryz.prog a w K Q := by
  obtain ⟨ii, hi, hz, h1, h2⟩ := shRow
  have hR : Rl w 33 (.slice (some ⟨gx, 0, none⟩) 1 1) 1 (oH [(d, y)]) := ⟨oH_ok 1 _, Or.inr ⟨gx, 0, 1, rfl, Nat.le_refl _, by omega, hx.lt, fun i hi => by
    obtain rfl : i = 0 := by omega
    intro j u hu
    rw [Nat.zero_mul, Nat.zero_add, hx.cell]
    unfold shC
    rw [List.getElem?_toArray]
    exact hu⟩⟩
  refine wp_append_r so xo 49 ho 96 ii (.agg zSh) 33 40 Tryz.underlying49 hi hz h1 h2 rfl (by omega) base v _ l.length 1 (oH l) (oH [(d, y)]) hs hxe hown hR (by omega) (by omega) (by omega) hbase ?_
  intro g cap w' O k _ _
  refine h _ w' ?_ k
  unfold Oh
  rw [List.length_append]
  refine O.congr fun j hj => ?_
  unfold catR oH
  by_cases h : j < l.length
  · rw [if_pos h]; simp [List.getD_eq_getElem?_getD, List.getElem?_append_left h]
  · rw [if_neg h]; simp [List.getD_eq_getElem?_getD, List.getElem?_append_right (show l.length ≤ j by omega)]
/-- The first k shares. -/
def spL (d E : Nat → Int) (k : Nat) : List (Int × Int) := (List.range k).map fun j => (d j, E j)
theorem spL_len (d E : Nat → Int) (k : Nat) : (spL d E k).length = k := by simp [spL]
theorem spL_s (d E : Nat → Int) (k : Nat) : spL d E (k + 1) = spL d E k ++ [(d k, E k)] := by simp [spL, List.range_succ]
theorem spL_get (d E : Nat → Int) (k j : Nat) (h : j < k) : (spL d E k).getD j (0, 0) = (d j, E j) := by simp [spL, List.getD_eq_getElem?_getD, h]
theorem Oh.sp {w : World} {base : Nat} {v : Value} {d E : Nat → Int} {k : Nat} (h : Oh w base v (spL d E k)) (hy : ∀ j, j < k → R256 (E j)) : Hl w v k d E := by
  have q := OwnR.rl h
  rw [spL_len] at q
  refine ⟨?_, hy⟩
  obtain ⟨q1, q2⟩ := q
  refine ⟨hF_ok k d E, ?_⟩
  rcases q2 with q2 | ⟨g, o, cap, e, h1, h2, h3, h4⟩
  · exact Or.inl q2
  · refine Or.inr ⟨g, o, cap, e, h1, h2, h3, fun i hi => ?_⟩
    have := h4 i hi
    unfold oH at this
    rw [spL_get d E k i hi] at this
    exact this
/-- What rimeref07.Split answers. -/
def SpR (f : Nat → Nat) (M : Nat) (d : Nat → Int) (N : Nat) (e : Ending) (w' : World) : Prop :=
  ∃ v, e = .returned (.tuple #[v, .int .i64 (idR d N)]) ∧ ((¬ idR d N = 0 ∧ v = .slice none 0 0) ∨ (idR d N = 0 ∧ Hl w' v N d (fun i => ev f (d i) 0 M)))
set_option maxHeartbeats 8000000 in
set_option maxRecDepth 100000 in
theorem Split_r (v u : Value) (M : Nat) (f : Nat → Nat) (hM : M ≤ 4611686018427387904) (N : Nat) (d : Nat → Int) (hN : N ≤ 4611686018427387904) (w : World) (hC : Ls w v M f) (hI : Il w u N d) :
    Calls Tryz.prog 13 #[v, u] w fun e w' => SpR f M d N e w' ∧ Chg w w' [] := by
  have hIs := IDs_r u N d hN w hI
  obtain ⟨p, cp, rfl, hp⟩ := hI.form
  have HP : Hid (∀ i, i < N → ∃ g o, p = some ⟨g, o, none⟩ ∧ g < w.heap.size ∧ w.cell? ⟨g, o + i, none⟩ = some (.int .i64 (d i))) := hp
  have HE0 : Hid (∀ x W, R256 x → Chg w W [] → Calls Tryz.prog 15 #[v, fe x] W fun e w' => e = .returned (fe (ev f x 0 M)) ∧ Chg W w' []) := fun x W hx hc => Eval_r v M f hM x hx W (hC.chg0 hc)
  obtain ⟨ie, hie, hiz, his, hib⟩ := shRow
  obtain ⟨R, hR⟩ : ∃ R, idR d N = R := ⟨_, rfl⟩
  have HR : Hid (idR d N = R) := hR
  rw [hR] at hIs
  clear hp hI hC hM hN hR
  go_enter Tryz.func13, Tryz.ntmps13
  go_wp2_with fail
  refine hIs.mono ?_
  rintro e w1 ⟨rfl, k1⟩
  clear hIs
  by_cases h0 : R = 0
  · subst h0
    obtain ⟨z1, z2⟩ := idR_zero HR.out
    have z3 := idE_len z1
    have HB : Hid (∀ i, i < N → 1 ≤ d i ∧ d i ≤ 255) := (idE_zero z1).1
    have HN : Hid (N ≤ 255) := z3
    have O0 := Oh.nil w1 w.heap.size
    obtain ⟨E, hE⟩ : ∃ E : Nat → Int, (fun i => ev f (d i) 0 M) = E := ⟨_, rfl⟩
    have HE : Hid (∀ i, ev f (d i) 0 M = E i) := fun i => by rw [← hE]
    have HEr : Hid (∀ i, R256 (E i)) := fun i => by rw [← HE.out i]; exact r256_rl (ev_rl f _ _ _)
    have HEq : Hid ((fun i => ev f (d i) 0 M) = E) := hE
    clear z1 z2 z3 hE
    go_wp2_with fail
    go_loopw [7, 8] (fun t7 t wr => ∃ i : Nat, i ≤ N ∧ t = .int .i64 (i : Int) ∧ Oh wr w.heap.size t7 (spL d E i) ∧ Chg w wr []) (fun _ t _ => (N - intOf t).toNat)
    case atStart => exact ⟨0, Nat.zero_le _, rfl, O0, k1⟩
    case round =>
      clear O0 k1
      rename_i u7 u8
      obtain ⟨i, hi, rfl, O, C⟩ := hrel
      by_cases h : i < N
      · have hI : (i : Int) < (N : Int) := by omega
        have hI0 : (0 : Int) ≤ (i : Int) := by omega
        have e1 : IntKind.i64.wrap ((i : Int) + 1) = (i : Int) + 1 := by have := HN.out; rw [IntKind.wrap_i64]; omega
        have HMs : Hid _ := mN N i h
        have HI1 : Hid (i + 1 ≤ N) := h
        have HNi : Hid (i ≤ 255) := by have := HN.out; show i ≤ 255; omega
        have hb := HB.out i h
        have HPl : Hid (0 ≤ d i ∧ d i < 9223372036854775808) := by show 0 ≤ d i ∧ d i < 9223372036854775808; omega
        have HRd : Hid (R256 (d i)) := by show R256 (d i); unfold R256; omega
        obtain ⟨Y, hY⟩ : ∃ Y, E i = Y := ⟨_, rfl⟩
        have HS2 : Hid (spL d E (i + 1) = spL d E i ++ [(d i, Y)]) := by show _ = _; rw [spL_s, hY]
        have HEv : Hid (∀ W, Chg wr W [] → Calls Tryz.prog 15 #[v, fe (d i)] W fun e w' => e = .returned (fe Y) ∧ Chg W w' []) := fun W hc => by
          have q := HE0.out (d i) W HRd.out (C.trans1 hc)
          rwa [HE.out i, hY] at q
        obtain ⟨g, o, rfl, hg, hc⟩ := HP.out i h
        have HIi : Hid (wr.cell? ⟨g, o + i, none⟩ = some (.int .i64 (d i))) := cell_chg hc hg C (by simp)
        have HGl : Hid (g < wr.heap.size) := Nat.lt_of_lt_of_le hg C.size
        have HOB : Hid (∀ i, i ∈ ob u7 → w.heap.size ≤ i) := fun i hi => (ob_own O i hi).1
        have HGo : Hid (¬ g ∈ ob u7) := fun hx => by have := HOB.out g hx; omega
        have HCz : Hid (w.heap.size ≤ wr.heap.size) := C.size
        clear h hi hb hc hg hY
        go_wp2_with fail
        refine wp_region_held_drew (S := fun w' => Chg wr w' (ob u7)) (by kernel_rfl) ((Chg.refl wr _).drew) (fun hHeld => ?_)
        refine take_val (v := ?_) 0 (some 20) rfl (by kernel_rfl) (by kernel_rfl) (by kernel_rfl) (fun _ _ _ h => h) rfl rfl (fun w hSw => ?_) hHeld ?_
        rotate_left
        · (go_simp; try with_reducible rfl)
        try simp only [Act.put, List.setIfInBounds_toArray, List.set_cons_zero, List.set_cons_succ]
        refine take_val (v := ?_) 1 (some 21) rfl (by kernel_rfl) (by kernel_rfl) (by kernel_rfl) (fun _ _ _ h => h) rfl rfl (fun w hSw => ?_) hHeld ?_
        rotate_left
        · (go_simp; try with_reducible rfl)
        try simp only [Act.put, List.setIfInBounds_toArray, List.set_cons_zero, List.set_cons_succ]
        refine take_val (v := ?_) 2 (some 22) rfl (by kernel_rfl) (by kernel_rfl) (by kernel_rfl) (fun _ _ _ h => h) rfl rfl (fun w hSw => ?_) hHeld ?_
        rotate_left
        · (go_simp; try with_reducible rfl)
        try simp only [Act.put, List.setIfInBounds_toArray, List.set_cons_zero, List.set_cons_succ]
        refine take_val (v := ?_) 3 (some 23) rfl (by kernel_rfl) (by kernel_rfl) (by kernel_rfl) (fun _ _ _ h => h) rfl rfl (fun w hSw => ?_) hHeld ?_
        rotate_left
        · (go_simp; try with_reducible rfl)
        try simp only [Act.put, List.setIfInBounds_toArray, List.set_cons_zero, List.set_cons_succ]
        refine take_val (v := (.int .i64 (d i))) 4 (some 24) rfl (by kernel_rfl) (by kernel_rfl) (by kernel_rfl) (fun _ _ _ h => h) rfl rfl (fun w hSw => ?_) hHeld ?_
        · have cx := cell_chg HIi.out HGl.out hSw HGo.out
          (go_simp; try with_reducible rfl)
        try simp only [Act.put, List.setIfInBounds_toArray, List.set_cons_zero, List.set_cons_succ]
        refine take_val (v := ?_) 5 (some 25) rfl (by kernel_rfl) (by kernel_rfl) (by kernel_rfl) (fun _ _ _ h => h) rfl rfl (fun w hSw => ?_) hHeld ?_
        rotate_left
        · (go_simp; try with_reducible rfl)
        try simp only [Act.put, List.setIfInBounds_toArray, List.set_cons_zero, List.set_cons_succ]
        refine take_val (v := ?_) 6 (some 26) rfl (by kernel_rfl) (by kernel_rfl) (by kernel_rfl) (fun _ _ _ h => h) rfl rfl (fun w hSw => ?_) hHeld ?_
        rotate_left
        · (go_simp; try with_reducible rfl)
        try simp only [Act.put, List.setIfInBounds_toArray, List.set_cons_zero, List.set_cons_succ]
        refine take_val (v := ?_) 7 (some 27) rfl (by kernel_rfl) (by kernel_rfl) (by kernel_rfl) (fun _ _ _ h => h) rfl rfl (fun w hSw => ?_) hHeld ?_
        rotate_left
        · (go_simp; try with_reducible rfl)
        try simp only [Act.put, List.setIfInBounds_toArray, List.set_cons_zero, List.set_cons_succ]
        refine take_val (v := ?_) 8 (some 28) rfl (by kernel_rfl) (by kernel_rfl) (by kernel_rfl) (fun _ _ _ h => h) rfl rfl (fun w hSw => ?_) hHeld ?_
        rotate_left
        · (go_simp; try with_reducible rfl)
        try simp only [Act.put, List.setIfInBounds_toArray, List.set_cons_zero, List.set_cons_succ]
        refine take_val (v := (.int .i64 (d i))) 9 (some 29) rfl (by kernel_rfl) (by kernel_rfl) (by kernel_rfl) (fun _ _ _ h => h) rfl rfl (fun w hSw => ?_) hHeld ?_
        · have cx := cell_chg HIi.out HGl.out hSw HGo.out
          (go_simp; try with_reducible rfl)
        try simp only [Act.put, List.setIfInBounds_toArray, List.set_cons_zero, List.set_cons_succ]
        refine wpAnyH_ready (rs := [10]) (by kernel_rfl) (by simp) ?_
        refine AllReadyH.cons (o := _) rfl (fun K hK => ?_) ?_
        ·
          go_simp
          refine (Place_r (d i) HPl.out _).mono ?_
          rintro e w3 ⟨rfl, k3⟩
          go_wp2_with fail
          refine hK.out _ _ (hHeld.trans1 k3.wide) (fun hHeld => ?_)
          clear hK K
          try simp only [Act.put, List.setIfInBounds_toArray, List.set_cons_zero, List.set_cons_succ]
          have C3 : Chg wr w3 [] := (Chg.refl wr []).drew.trans1 k3
          clear k3
          refine wpAnyH_ready (rs := [11]) (by kernel_rfl) (by simp) ?_
          refine AllReadyH.cons (o := _) rfl (fun K hK => ?_) ?_
          ·
            go_simp
            refine (HEv.out _ C3).mono ?_
            rintro e w4 ⟨rfl, k4⟩
            go_wp2_with fail
            refine hK.out _ _ (hHeld.trans1 k4.wide) (fun hHeld => ?_)
            clear hK K
            try simp only [Act.put, List.setIfInBounds_toArray, List.set_cons_zero, List.set_cons_succ]
            replace C3 := C3.trans1 k4
            clear k4
            refine take_val (v := (.agg (shC (d i) Y))) 12 (some 32) rfl (by kernel_rfl) (by kernel_rfl) (by kernel_rfl) (fun _ _ _ h => h) rfl rfl (fun w hSw => ?_) hHeld ?_
            · exact exec_build2 w 96 0 1 (.tmp 24) (.tmp 31) rfl (.int .i64 (d i)) (fe Y) rfl rfl (shC (d i) Y) (built_sh _ _)
            try simp only [Act.put, List.setIfInBounds_toArray, List.set_cons_zero, List.set_cons_succ]
            refine wpAnyH_ready (rs := [13]) (by kernel_rfl) (by simp) ?_
            refine AllReadyH.cons (o := _) rfl (fun K hK => ?_) ?_
            ·
              rw [if_pos (by rfl)]
              refine wp_bslice_w 49 96 (.tmp 32) rfl (.agg (shC (d i) Y)) rfl (shC (d i) Y) ie (.agg zSh) Tryz.underlying49 hie hiz 33 his (by omega) (by omega) (fill_sh _ _) ?_
              intro gx w5 hgx Bg k5
              change K (Act.put _ (some 33) _) _
              refine hK.out _ _ (hHeld.trans1 k5.wide) (fun hHeld => ?_)
              clear hK K
              try simp only [Act.put, List.setIfInBounds_toArray, List.set_cons_zero, List.set_cons_succ]
              refine wpAnyH_ready (rs := [14]) (by kernel_rfl) (by simp) ?_
              refine AllReadyH.cons (o := _) rfl (fun K hK => ?_) ?_
              ·
                rw [if_pos (by rfl)]
                refine wp_append_oh (.tmp 20) (.tmp 33) rfl w.heap.size u7 gx (spL d E i) (d i) Y rfl rfl ((O.chg C3).chg k5) Bg (by rw [spL_len]; have := HNi.out; omega) (by have := HCz.out; have := C3.size; have := k5.size; omega) ?_
                intro v7 w7 O7 k7
                change K (Act.put _ (some 34) _) _
                refine hK.out _ _ (hHeld.trans1 k7) (fun hHeld => ?_)
                clear hK K
                try simp only [Act.put, List.setIfInBounds_toArray, List.set_cons_zero, List.set_cons_succ]
                refine take_val (v := ?_) 15 (some 7) rfl (by kernel_rfl) (by kernel_rfl) (by kernel_rfl) (fun _ _ _ h => h) rfl rfl (fun w hSw => ?_) hHeld ?_
                rotate_left
                · (go_simp; try with_reducible rfl)
                try simp only [Act.put, List.setIfInBounds_toArray, List.set_cons_zero, List.set_cons_succ]
                refine wpAnyH_done (by kernel_rfl) ?_ _
                have C7 : Chg w w7 [] := ((C.trans1 C3).trans1 k5).trans k7 (fun i hi => Or.inr (HOB.out i hi))
                have HWS : Hid (wr.heap.size ≤ w7.heap.size) := hHeld.size
                clear k7 k5 C3 hHeld hgx Bg O C
                go_wp2_with fail
                go_roundw
                case rel => exact ⟨i + 1, HI1.out, by go_num, by rw [HS2.out]; exact O7, C7⟩
                case measure => exact HMs.out
              exact AllReadyH.nil
            exact AllReadyH.nil
          exact AllReadyH.nil
        exact AllReadyH.nil
      · obtain rfl : i = N := by omega
        have hI : ¬ (i : Int) < (i : Int) := by omega
        go_wp2_with fail
        go_ret2
        exact ⟨⟨u7, by rw [HR.out]; rfl, Or.inr ⟨HR.out, HEq.out ▸ O.sp (fun j _ => HEr.out j)⟩⟩, C⟩
  · have h0' : ¬ R = 0 := h0
    go_wp2_with fail
    go_ret2
    exact ⟨⟨.slice none 0 0, by rw [HR.out]; rfl, Or.inl ⟨by rw [HR.out]; exact h0, rfl⟩⟩, k1⟩
end Go.Proofs.YtemjpibmefggnaaGreat
