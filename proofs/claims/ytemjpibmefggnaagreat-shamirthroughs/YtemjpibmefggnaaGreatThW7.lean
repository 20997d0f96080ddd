/- == on points; ShamirThroughs: the walk. -/
import Derived.Test.YtemjpibmefggnaaGreatRTh3
import Derived.Test.YtemjpibmefggnaaGreatMgE
import Derived.Test.YtemjpibmefggnaaGreatMgP
set_option linter.unusedVariables false
set_option linter.unusedSimpArgs false
set_option linter.unnecessarySimpa false
namespace Go.Proofs.YtemjpibmefggnaaGreat
open Go.RowKit N

theorem ptUnder : Tryz.prog.underlying 82 = some (.struct (Tryz.prog.fieldsOf 82)) := by kernel_rfl
theorem ptStood : Tryz.prog.stoodInHeld 82 = false := by kernel_rfl
theorem ptGuard : Tryz.prog.eqGuardType Tryz.prog.depth 82 = false := by kernel_rfl
theorem ptFs : ∃ f0 f1 : Field, (Tryz.prog.fieldsOf 82).toList = [f0, f1] ∧ f0.name = "X" ∧ f0.type = 24 ∧ f0.offset = 0 ∧ f1.name = "Y" ∧ f1.type = 24 ∧ f1.offset = 32 := by
  have h : ((Tryz.prog.fieldsOf 82).toList.map fun f => (f.name, f.type, f.offset)) = [("X", 24, 0), ("Y", 24, 32)] := by kernel_rfl
  generalize (Tryz.prog.fieldsOf 82).toList = l at h
  rcases l with _ | ⟨f0, _ | ⟨f1, _ | ⟨f2, l⟩⟩⟩
  · simp at h
  · simp at h
  · simp only [List.map_cons, List.map_nil, List.cons.injEq, Prod.mk.injEq, and_true] at h
    exact ⟨f0, f1, rfl, h.1.1, h.1.2.1, h.1.2.2, h.2.1, h.2.2.1, h.2.2.2⟩
  · simp at h
theorem eq_fe9p (n m : Int) (w : World) : (Op.equalIn 9999 24 (.agg (feC n)) (.agg (feC m))).run Tryz.prog w = .ok (eqf n m) w := by
  obtain ⟨i, hi⟩ := u8Info
  rw [show (9999 : Nat) = 9997 + 1 + 1 from rfl, run_equalIn_array w 9998 _ _ Tryz.underlying24 hi, u8Cells]
  exact eqItems_ints w 9997 Tryz.underlying5 _ _ (by8 n) (by8 m) (List.range 32) (fun j hj => ⟨feC_get n j (by simpa using hj), feC_get m j (by simpa using hj)⟩)
theorem part_px (x y : Int) (w : World) : (part 24 (ptC x y) 0).run Tryz.prog w = .ok (.agg (feC x)) w := by
  have h : (ptC x y).extract 0 (0 + 32) = feC x := by kernel_rfl
  obtain ⟨ii, hi, hz, h1, h2⟩ := scRowL
  unfold part isAgg sizeOf typeInfo
  simp [Sem.run_bind, run_underlying Tryz.underlying24, hi, h1, run_program]
  simpa using h
theorem part_py (x y : Int) (w : World) : (part 24 (ptC x y) 32).run Tryz.prog w = .ok (.agg (feC y)) w := by
  have h : (ptC x y).extract 32 (32 + 32) = feC y := by kernel_rfl
  obtain ⟨ii, hi, hz, h1, h2⟩ := scRowL
  unfold part isAgg sizeOf typeInfo
  simp [Sem.run_bind, run_underlying Tryz.underlying24, hi, h1, run_program]
  simpa using h
theorem eq_pt (x y : Int) (w : World) : (Op.equalIn 10000 82 (.agg (ptC x y)) (.agg (ptC x y))).run Tryz.prog w = .ok true w := by
  obtain ⟨f0, f1, hl, n0, t0, o0, n1, t1, o1⟩ := ptFs
  rw [show (10000 : Nat) = 9999 + 1 from rfl, run_equalIn_struct w 9999 _ _ _ ptUnder ptStood, hl]
  simp only [Op.eqFields, n0, n1, t0, t1, o0, o1, ne_eq, Sem.run_bind, part_px, part_py, Result.andThen_ok]
  rw [if_pos (by decide)]
  simp only [Sem.run_bind, part_px, Result.andThen_ok, eq_fe9p, eqf_self, Bool.not_true, Bool.false_eq_true, if_false]
  rw [if_pos (by decide)]
  simp only [Sem.run_bind, part_py, Result.andThen_ok, eq_fe9p, eqf_self, Bool.not_true, Bool.false_eq_true, if_false, Sem.run_pure]
theorem exec_neq_pt {op : Oper} {a : Act} (w : World) (x z : Operand) (ho : op.op = .binOp .neq 82 x z 82) (p q : Int) (hx : a.eval x = .agg (ptC p q)) (hz : a.eval z = .agg (ptC p q)) : (execOp a.eval op).run Tryz.prog w = .ok (.value (.bool false)) w := by
  have hg := ptGuard
  unfold execOp
  simp only [ho, hx, hz]
  simp only [Sem.run_bind, run_eqGuard_agg w _ _ _ _ _ _ hg, run_neq_struct, eq_pt, Result.andThen_ok, Sem.run_pure, Bool.not_true]
/-! ### Both answers -/
def ThQ (X Y : Nat → Int) (N : Nat) (w : World) (r : Value) (E : Int) : Prop :=
  ((N = 0 ∨ 255 < N) ∧ E = 8 ∧ r = .slice none 0 0) ∨ (0 < N ∧ N ≤ 255 ∧ (∃ i, i < N ∧ zv X i = 0) ∧ E = 5 ∧ r = .slice none 0 0) ∨
  (0 < N ∧ N ≤ 255 ∧ (∀ j, j < N → ¬ zv X j = 0) ∧ E = 0 ∧ Ls w r N (nT (cc X Y N)))
theorem ThQ.chg {X Y : Nat → Int} {N : Nat} {w w' : World} {r : Value} {E : Int} (h : ThQ X Y N w r E) (hc : Chg w w' []) : ThQ X Y N w' r E := by
  rcases h with h | h | ⟨h1, h2, h3, h4, h5⟩
  · exact Or.inl h
  · exact Or.inr (Or.inl h)
  · exact Or.inr (Or.inr ⟨h1, h2, h3, h4, h5.chg0 hc⟩)
theorem Through_s3 (v : Value) (N : Nat) (X Y : Nat → Int) (hN : N ≤ 4611686018427387904) (w : World) (hL : Pl w v N X Y) :
    Calls Tryz.prog 32 #[v] w fun e w' => ∃ r E, e = .returned (.tuple #[r, .int .i64 E]) ∧ ThQ X Y N w' r E ∧ Chg w w' [] := by
  refine (Through_s v N X Y hN w hL).mono ?_
  rintro e w' ⟨h, k⟩
  unfold ThP at h
  rcases h with ⟨h1, rfl⟩ | ⟨h1, h2, ⟨i, hi, hz, _⟩, rfl⟩ | ⟨h1, h2, h3, g, _, rfl, S⟩
  · exact ⟨_, _, rfl, Or.inl ⟨h1, rfl, rfl⟩, k⟩
  · exact ⟨_, _, rfl, Or.inr (Or.inl ⟨h1, h2, ⟨i, hi, hz⟩, rfl, rfl⟩), k⟩
  · exact ⟨_, _, rfl, Or.inr (Or.inr ⟨h1, h2, h3, rfl, S.ls (by omega) (fun j _ => cc_r X Y N j) (Nat.le_refl _)⟩), k⟩
theorem Through_r3 (v : Value) (N : Nat) (X Y : Nat → Int) (hN : N ≤ 4611686018427387904) (w : World) (hL : Pl w v N X Y) :
    Calls Tryz.prog 33 #[v] w fun e w' => ∃ r E, e = .returned (.tuple #[r, .int .i64 E]) ∧ ThQ X Y N w' r E ∧ Chg w w' [] := by
  refine (Through_r v N X Y hN w hL).mono ?_
  rintro e w' ⟨h, k⟩
  unfold TrP at h
  rcases h with ⟨h1, rfl⟩ | ⟨h1, h2, ⟨q, i, hq, hi, he⟩, rfl⟩ | ⟨h1, h2, h3, g, _, rfl, S⟩
  · exact ⟨_, _, rfl, Or.inl ⟨h1, rfl, rfl⟩, k⟩
  · refine ⟨_, _, rfl, Or.inr (Or.inl ⟨h1, h2, ?_, rfl, rfl⟩), k⟩
    by_cases hz : ∃ i, i < N ∧ zv X i = 0
    · exact hz
    · exact absurd he (apart_zv (fun j hj e => hz ⟨j, hj, e⟩) q i hq hi)
  · exact ⟨_, _, rfl, Or.inr (Or.inr ⟨h1, h2, zv_apart' h3, rfl, (S.congr (fun j hj => oc_cc h3 j hj)).ls (by omega) (fun j _ => cc_r X Y N j) (Nat.le_refl _)⟩), k⟩
theorem th_both {X Y : Nat → Int} {N : Nat} {w : World} {r r' : Value} {E E' : Int} (h : ThQ X Y N w r E) (g : ThQ X Y N w r' E') : E = E' ∧ IntKind.i64.wrap E = E ∧ ∃ n f, n ≤ 255 ∧ Ls w r n f ∧ Ls w r' n f := by
  have hnil : Ls w (.slice none 0 0) 0 (fun _ => 0) := ⟨fun i hi => by omega, Or.inl ⟨rfl, rfl⟩⟩
  rcases h with ⟨h1, rfl, rfl⟩ | ⟨h1, h2, ⟨i, hi, hz⟩, rfl, rfl⟩ | ⟨h1, h2, h3, rfl, L⟩
  · rcases g with ⟨_, rfl, rfl⟩ | ⟨g1, g2, _⟩ | ⟨g1, g2, _⟩
    · exact ⟨rfl, rfl, 0, _, by omega, hnil, hnil⟩
    · omega
    · omega
  · rcases g with ⟨g1, _⟩ | ⟨_, _, _, rfl, rfl⟩ | ⟨_, _, g3, _⟩
    · omega
    · exact ⟨rfl, rfl, 0, _, by omega, hnil, hnil⟩
    · exact absurd hz (g3 i hi)
  · rcases g with ⟨g1, _⟩ | ⟨_, _, ⟨i, hi, hz⟩, _⟩ | ⟨_, _, _, rfl, L'⟩
    · omega
    · exact absurd hz (h3 i hi)
    · exact ⟨rfl, rfl, N, _, h2, L, L'⟩
theorem append_pts {w : World} {ops : Array Oper} {rest : List Oper} {o : Oper} {a : Act} {Q : Exit → Act → World → Prop} (hgd : o.guard = none) (so xo : Operand)
    (ho : o.op = .call { callee := .builtin .append, args := #[so, xo], argTypes := #[78, 78] }) (v : Value) (N : Nat) (X Y : Nat → Int) (hs : a.eval so = .slice none 0 0) (hxe : a.eval xo = v) (hL : Pl w v N X Y) (hN : N ≤ 2199023255488)
    (h : ∀ v' w', Pl w' v' N X Y → Chg w w' [] → wpList Tryz.prog ops Q rest (a.put o.dst v') w') : wpList Tryz.prog ops Q (o :: rest) a w := by
  obtain ⟨ii, hii, hiz, his, hib⟩ := ptRow
  by_cases h0 : 0 < N
  · refine wpList_append_r hgd so xo 78 ho 82 ii (.agg zPt) 64 64 Tryz.underlying78 hii hiz his hib rfl (by omega) w.heap.size (.slice none 0 0) v 0 N (fun _ => []) (pF X Y) hs hxe (OwnR.nil _ _ _ _ _) hL.1 h0 (by omega) (by omega) (Nat.le_refl _) ?_
    intro g cap w1 O k1 _ _
    refine h _ w1 ⟨?_, hL.2⟩ k1
    have q := OwnR.rl (O.congr (G := pF X Y) (fun j hj => by unfold catR; rw [if_neg (by omega), Nat.sub_zero]))
    rw [Nat.zero_add] at q ⊢
    exact q
  · obtain rfl : N = 0 := by omega
    rcases hL.1.2 with ⟨_, rfl⟩ | ⟨g, o', cap, rfl, h1, h2, h3, h4⟩
    · refine wpList_append_own_none hgd so xo 78 ho w.heap.size 82 ii 64 Tryz.underlying78 hii (.slice none 0 0) 0 [] hs (World.ownsRow_nil _ _ _ _) hxe ?_
      exact h _ w ⟨⟨pF_ok 0 X Y, Or.inl ⟨rfl, rfl⟩⟩, fun j hj => by omega⟩ (Chg.refl _ _)
    · refine wpList_append_own_wide w hgd so xo 78 ho w.heap.size 82 ii (.agg zPt) 64 64 Tryz.underlying78 hii hiz his hib rfl (by decide) (.slice none 0 0) 0 [] hs (World.ownsRow_nil _ _ _ _) ⟨g, o', none⟩ 0 cap [] hxe rfl (by simp) (by simp) (by simp [maxLen]) (by omega) (Nat.le_refl _) ?_
      intro v' w' q1 q2 _
      refine h v' w' ⟨⟨pF_ok 0 X Y, ?_⟩, fun j hj => by omega⟩ (Chg.grown q2)
      rcases q1.2 with ⟨e1, _⟩ | ⟨g2, cap2, cur, e1, hb2, hg2, hc2, hm2, _⟩
      · exact Or.inl ⟨rfl, e1⟩
      · exact Or.inr ⟨g2, 0, cap2, e1, by omega, by unfold maxLen at hm2; omega, Blk.lt hg2, fun i hi => by omega⟩
set_option maxHeartbeats 32000000 in
set_option maxRecDepth 100000 in
theorem throughs_walk (v : Value) (N : Nat) (X Y : Nat → Int) (hN : N ≤ 2199023255488) (w : World) (hL : Pl w v N X Y) :
    Calls Tryz.prog 6 #[v] w fun e w' => e = .returned (.bool true) ∧ Chg w w' [] := by
  have HL : Hid (Pl w v N X Y) := hL
  have HN : Hid (N ≤ 2199023255488) := hN
  obtain ⟨p, cp, rfl, hp⟩ := hL.1.form
  have HP : Hid (∀ i, i < N → ∃ g o, p = some ⟨g, o, none⟩ ∧ g < w.heap.size ∧ w.rangeAt g (o + i * 64) (pF X Y i)) := hp
  clear hL hN hp
  go_enter Tryz.func6, Tryz.ntmps6
  go_upto_region 2 with (refine append_pts rfl (.const (.slice none 0 0)) (.tmp 9) rfl _ N X Y rfl rfl HL.out HN.out ?_; intro va w1 PA C)
  have HPA : Hid (Pl w1 va N X Y) := PA
  obtain ⟨pa, ca, rfl, hpa⟩ := PA.1.form
  have HPa : Hid (∀ i, i < N → ∃ g o, pa = some ⟨g, o, none⟩ ∧ g < w1.heap.size ∧ w1.rangeAt g (o + i * 64) (pF X Y i)) := hpa
  have HC : Hid (Chg w w1 []) := C
  clear PA hpa C
  go_wp2_with fail
  refine (Through_s3 _ N X Y (by have := HN.out; omega) w1 HPA.out).mono ?_
  rintro e w2 ⟨r1, E1, rfl, Q1, k2⟩
  have HQ1 : Hid (ThQ X Y N w2 r1 E1) := Q1
  have HK2 : Hid (Chg w1 w2 []) := k2
  clear Q1 k2
  go_wp2_with fail
  refine (Through_r3 _ N X Y (by have := HN.out; omega) w2 (HL.out.chg (HC.out.trans1 HK2.out))).mono ?_
  rintro e wb ⟨r2, E2, rfl, Q2, k3⟩
  obtain ⟨rfl, hwE, n, f, hn, L1, L2⟩ := th_both (HQ1.out.chg k3) Q2
  have HWE : Hid (IntKind.i64.wrap E1 = E1) := hwE
  have HSS : Hid (∀ W, Chg wb W [] → Calls Tryz.prog 24 #[r1, r2] W fun e w' => e = .returned (.bool true) ∧ Chg W w' []) := fun W h => SameScalars_t r1 r2 n f (by omega) W (L1.chg0 h) (L2.chg0 h)
  have HCb : Hid (Chg w wb []) := (HC.out.trans1 HK2.out).trans1 k3
  have HC1 : Hid (Chg w1 wb []) := HK2.out.trans1 k3
  clear Q2 k3 hwE L1 L2 hn HQ1 HK2
  go_wp2_with fail
  go_loopw [8] (fun t wr => ∃ i : Nat, i ≤ N ∧ t = .int .i64 (i : Int) ∧ Chg wb wr []) (fun t _ => (N - intOf t).toNat)
  case atStart => exact ⟨0, Nat.zero_le _, rfl, Chg.refl _ _⟩
  case round =>
    obtain ⟨wq, rfl⟩ : ∃ z, z = wr := ⟨wr, rfl⟩
    obtain ⟨i, hi, rfl, C2⟩ := hrel
    by_cases h : i < N
    · have hI : (i : Int) < (N : Int) := by omega
      have hI0 : (0 : Int) ≤ (i : Int) := by omega
      have e1 : IntKind.i64.wrap ((i : Int) + 1) = (i : Int) + 1 := by have := HN.out; rw [IntKind.wrap_i64]; omega
      have HMs : Hid _ := mN N i h
      have HI : Hid (i < N) := h
      obtain ⟨gp, o, rfl, hg, hF⟩ := HP.out i h
      obtain ⟨ga, oa, rfl, hga, hA⟩ := HPa.out i h
      have hF' : wq.rangeAt gp (o + i * 64) (feL (X i) ++ feL (Y i)) := rangeAt_chg hF hg (HCb.out.trans1 C2) (by simp)
      have hA' : wq.rangeAt ga (oa + i * 64) (feL (X i) ++ feL (Y i)) := rangeAt_chg hA hga (HC1.out.trans1 C2) (by simp)
      have HGp : Hid (gp < wq.heap.size) := Nat.lt_of_lt_of_le hg (HCb.out.trans1 C2).size
      have HGa : Hid (ga < wq.heap.size) := Nat.lt_of_lt_of_le hga (HC1.out.trans1 C2).size
      clear hF hA hg hga h hi
      go_wp2_with fail
      refine wp_region_held_drew (S := fun w' => Chg wq w' []) (by kernel_rfl) ((Chg.refl wq _).drew) (fun hHeld => ?_)
      refine take_val (v := ?_) 0 (some 27) rfl (by kernel_rfl) (by kernel_rfl) (by kernel_rfl) (fun _ _ _ h => h) rfl rfl (fun w hSw => ?_) hHeld ?_
      rotate_left
      · (go_simp; try with_reducible rfl)
      try simp only [Act.put, List.setIfInBounds_toArray, List.set_cons_zero, List.set_cons_succ]
      refine take_val (v := ?_) 1 (some 28) rfl (by kernel_rfl) (by kernel_rfl) (by kernel_rfl) (fun _ _ _ h => h) rfl rfl (fun w hSw => ?_) hHeld ?_
      rotate_left
      · (go_simp; try with_reducible rfl)
      try simp only [Act.put, List.setIfInBounds_toArray, List.set_cons_zero, List.set_cons_succ]
      refine take_val (v := ?_) 2 (some 29) rfl (by kernel_rfl) (by kernel_rfl) (by kernel_rfl) (fun _ _ _ h => h) rfl rfl (fun w hSw => ?_) hHeld ?_
      rotate_left
      · (go_simp; try with_reducible rfl)
      try simp only [Act.put, List.setIfInBounds_toArray, List.set_cons_zero, List.set_cons_succ]
      refine take_val (v := (.agg (ptC (X i) (Y i)))) 3 (some 30) rfl (by kernel_rfl) (by kernel_rfl) (by kernel_rfl) (fun _ _ _ h => h) rfl rfl (fun w hSw => ?_) hHeld ?_
      · exact exec_load_m w 82 _ rfl ga (oa + i * 64) rfl (feL (X i) ++ feL (Y i)) _ (rangeAt_chg hA' HGa.out hSw (by simp)) Tryz.underlying82 rfl ptInfo
      try simp only [Act.put, List.setIfInBounds_toArray, List.set_cons_zero, List.set_cons_succ]
      refine take_val (v := ?_) 4 (some 31) rfl (by kernel_rfl) (by kernel_rfl) (by kernel_rfl) (fun _ _ _ h => h) rfl rfl (fun w hSw => ?_) hHeld ?_
      rotate_left
      · (go_simp; try with_reducible rfl)
      try simp only [Act.put, List.setIfInBounds_toArray, List.set_cons_zero, List.set_cons_succ]
      refine take_val (v := ?_) 5 (some 32) rfl (by kernel_rfl) (by kernel_rfl) (by kernel_rfl) (fun _ _ _ h => h) rfl rfl (fun w hSw => ?_) hHeld ?_
      rotate_left
      · (go_simp; try with_reducible rfl)
      try simp only [Act.put, List.setIfInBounds_toArray, List.set_cons_zero, List.set_cons_succ]
      refine take_val (v := ?_) 6 (some 33) rfl (by kernel_rfl) (by kernel_rfl) (by kernel_rfl) (fun _ _ _ h => h) rfl rfl (fun w hSw => ?_) hHeld ?_
      rotate_left
      · (go_simp; try with_reducible rfl)
      try simp only [Act.put, List.setIfInBounds_toArray, List.set_cons_zero, List.set_cons_succ]
      refine take_val (v := (.agg (ptC (X i) (Y i)))) 7 (some 34) rfl (by kernel_rfl) (by kernel_rfl) (by kernel_rfl) (fun _ _ _ h => h) rfl rfl (fun w hSw => ?_) hHeld ?_
      · exact exec_load_m w 82 _ rfl gp (o + i * 64) rfl (feL (X i) ++ feL (Y i)) _ (rangeAt_chg hF' HGp.out hSw (by simp)) Tryz.underlying82 rfl ptInfo
      try simp only [Act.put, List.setIfInBounds_toArray, List.set_cons_zero, List.set_cons_succ]
      refine take_val (v := (.bool false)) 8 (some 35) rfl (by kernel_rfl) (by kernel_rfl) (by kernel_rfl) (fun _ _ _ h => h) rfl rfl (fun w hSw => ?_) hHeld ?_
      · exact exec_neq_pt w (.tmp 30) (.tmp 34) rfl (X i) (Y i) rfl rfl
      try simp only [Act.put, List.setIfInBounds_toArray, List.set_cons_zero, List.set_cons_succ]
      refine wpAnyH_done (by kernel_rfl) ?_ _
      replace C2 := C2.trans1 hHeld
      clear hHeld hA' hF'
      go_wp2_with fail
      go_roundw
      case rel => exact ⟨i + 1, HI.out, by go_num, C2⟩
      case measure => exact HMs.out
    · obtain rfl : N = i := by omega
      have hI : ¬ (N : Int) < (N : Int) := by omega
      have hEE : (E1 == E1) = true := by simp
      clear h hi
      go_wp2_with fail
      refine (HSS.out _ C2).mono ?_
      rintro e v1 ⟨rfl, j1⟩
      go_wp2_with (first
        | (go_at_call 16; refine (numS E1 HWE.out _).mono ?_; rintro e w' ⟨rfl, rfl⟩))
      refine (alive_s _).mono ?_
      rintro e v3 ⟨rfl, j3⟩
      go_wp2_with fail
      go_ret
      exact ⟨rfl, ((HCb.out.trans1 C2).trans1 j1).trans1 j3⟩
end Go.Proofs.YtemjpibmefggnaaGreat
