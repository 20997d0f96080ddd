/- rimeref10.Used of a message that may be. -/
import Derived.Test.YtgfeopingompdaaGreatDoorMwF
import Derived.Test.YtgfeopingompdaaGreatDoorW50t
import Derived.Test.YtgfeopingompdaaGreatDoorMwE
import Derived.Test.YtgfeopingompdaaGreatDoorW38
import Derived.Deep.DeepAppendWide
set_option linter.unusedVariables false
set_option linter.unusedSimpArgs false
set_option linter.unnecessarySimpa false
namespace Go.Proofs.YtgfeopingompdaaGreatDoor
open Go.RowKit

/-- A slice literal without elements. -/
theorem bs0 {w : World} {ops : Array Oper} {rest : List Oper} {op : Oper} {a : Act} {Q : Exit → Act → World → Prop} (hgd : op.guard = none) (t e : TypeId) (ho : op.op = .buildSlice t 0 #[]) (ie : TypeInfo) (hu : Tryz.prog.underlying t = some (.slice e)) (hie : Tryz.prog.info? e = some ie)
    (h : ∀ g w', w.heap.size ≤ g → Blk w' g #[] e → Chg w w' [] → wpList Tryz.prog ops Q rest (a.put op.dst (.slice (some ⟨g, 0, none⟩) 0 0)) w') : wpList Tryz.prog ops Q (op :: rest) a w := by
  refine wpList_plain hgd fun _ hK => ?_
  have hr : (Instr.buildSlice t 0 #[]).run Tryz.prog w = .ok (.slice (some ⟨w.heap.size, 0, none⟩) 0 0) (w.alloc (.cells #[] e)) := by
    simp [Instr.buildSlice, run_underlying hu, sizeOf, typeInfo, hie, newRow, Instr.fill, show (Array.range 0) = #[] from rfl]
  unfold Oper.wp execOp
  simp only [ho, Array.map_empty, Sem.run_bind, hr, Result.andThen_ok, Sem.run_pure]
  exact hK _ _ (h _ _ (Nat.le_refl _) (Blk.new _ _ _) ((Chg.refl _ _).alloc _))
theorem own0 {w : World} {base g s : Nat} {e : TypeId} (h : Blk w g #[] e) (hg : base ≤ g) : w.ownsRow base e s (.slice (some ⟨g, 0, none⟩) 0 0) 0 [] :=
  ⟨by simp, Or.inr ⟨g, 0, #[], rfl, hg, h, Nat.le_refl _, by simp [maxLen], by simp, by simp⟩⟩
/-- A list of commitments is appended to a literal without elements. -/
theorem app_cl {w : World} {ops : Array Oper} {rest : List Oper} {o : Oper} {a : Act} {Q : Exit → Act → World → Prop} (hgd : o.guard = none) (so xo : Operand)
    (ho : o.op = .call { callee := .builtin .append, args := #[so, xo], argTypes := #[28, 28] }) (base g : Nat) (x : Value) (N : Nat) (d : Nat → Int) (h b : Nat → Nat → Nat) (hs : a.eval so = .slice (some ⟨g, 0, none⟩) 0 0) (hxe : a.eval xo = x) (hB : Blk w g #[] 27) (hg : base ≤ g) (hx : Cl w x N d h b) (hN : N ≤ 255) (hbase : base ≤ w.heap.size)
    (hk : ∀ p c w', OwnR w' base 27 65 (.slice p N c) N (cF d h b) → Chg w w' [g] → wpList Tryz.prog ops Q rest (a.put o.dst (.slice p N c)) w') : wpList Tryz.prog ops Q (o :: rest) a w := by
  obtain ⟨ie, hie, hz, h1, h2⟩ := cmRow
  have hR := hx.1
  rcases hR.2 with ⟨h0, rfl⟩ | ⟨gx, ox, cx, rfl, q1, q2, q3, q4⟩
  · refine wpList_append_own_none hgd so xo 28 ho base 27 ie 65 Tryz.underlying28 hie _ 0 [] hs (own0 hB hg) hxe ?_
    subst h0
    exact hk _ _ w ⟨own0 hB hg, hR.1⟩ (Chg.refl _ _)
  · refine wpList_append_own_wide w hgd so xo 28 ho base 27 ie (.agg (cmC 0 zN zN)) 65 72 Tryz.underlying28 hie hz h1 h2 (by rw [Value.cells, cmC_size]) (by omega) _ 0 [] hs (own0 hB hg) ⟨gx, ox, none⟩ N cx (rL 65 N (cF d h b)) hxe (rL_len 65 N _)
      (Rl.cells (cap := cx) hR.1 q4) (rL_one hR.1) (by simp [maxLen]; omega) (by omega) hbase ?_
    intro v' w' h3 h4 _
    rw [List.nil_append, Nat.zero_add] at h3
    have hO : OwnR w' base 27 65 v' N (cF d h b) := ⟨h3, hR.1⟩
    obtain ⟨p, c, rfl⟩ := hO.lenL
    exact hk p c w' hO (Chg.grown h4)
theorem OwnR.lts {w : World} {base : Nat} {T : TypeId} {s : Nat} {v : Value} {n : Nat} {F : Nat → List Value} (h : OwnR w base T s v n F) : ∀ k ∈ ob v, k < w.heap.size := by
  obtain ⟨⟨_, h1⟩, _⟩ := h
  rcases h1 with ⟨rfl, _⟩ | ⟨g, cap, cur, rfl, hg, hh, _⟩
  · intro k hk; simp [ob, Value.ownBlock] at hk
  · intro k hk; simp [ob, Value.ownBlock] at hk; subst hk; exact (Array.getElem?_eq_some_iff.1 hh).1
theorem cat_0u (f g : Nat → Nat) : cat f 0 g = g := by
  funext i
  unfold cat
  rw [if_neg (by omega), Nat.sub_zero]
theorem wpList_build4 {P : Program} {ops : Array Oper} {rest : List Oper} {o : Oper} {a : Act} {w : World} {Q : Exit → Act → World → Prop} (hg : o.guard = none) (t : TypeId) (i0 i1 i2 i3 : Nat) (x0 x1 x2 x3 : Operand) (ho : o.op = .build t #[(i0, x0), (i1, x1), (i2, x2), (i3, x3)]) (v0 v1 v2 v3 : Value)
    (h0 : a.eval x0 = v0) (h1 : a.eval x1 = v1) (h2 : a.eval x2 = v2) (h3 : a.eval x3 = v3) (cells : Array Value) (hb : P.built t [(i0, v0), (i1, v1), (i2, v2), (i3, v3)] = some cells) (h : wpList P ops Q rest (a.put o.dst (.agg cells)) w) : wpList P ops Q (o :: rest) a w :=
  wpList_buildW hg t _ ho cells (by subst h0 h1 h2 h3; simpa using hb) h
theorem builtUs (m : Ms) : Tryz.prog.built 35 [(0, .int .i64 m.kind), (1, .agg (yL 32 m.ses).toArray), (2, .int .i64 m.fr), (3, .int .i64 m.to)] = some (msC (us0 m)) := by kernel_rfl
/-- What Used answers. -/
def UsQ (m : Ms) (N : Nat) (d : Nat → Int) (h b : Nat → Nat → Nat) (M : Nat) (ft : Nat → Nat) (w : World) (e : Ending) (w' : World) : Prop :=
  ((m.kind ≠ 3 ∧ e = .returned (.agg (msC (usM m)))) ∨ (m.kind = 3 ∧ ∃ vl vt, e = .returned (.agg (msC { us0 m with list := vl, text := vt })) ∧ OwnR w' w.heap.size 27 65 vl N (cF d h b) ∧ (∀ j, j < N → ∀ i, i < 32 → h j i < 256 ∧ b j i < 256) ∧ Own w' w.heap.size vt M ft)) ∧ Chg w w' []
theorem u8RowU : ∃ i, Tryz.prog.info? 5 = some i := Option.isSome_iff_exists.1 (by kernel_rfl)
set_option maxHeartbeats 16000000 in
set_option maxRecDepth 100000 in
theorem Used_1 (m : Ms) (N : Nat) (d : Nat → Int) (h b : Nat → Nat → Nat) (M : Nat) (ft : Nat → Nat) (k : m.kind = 1) (hg : EnG m N d M) (w : World) (hL : Cl w m.list N d h b) (hT : Sl w m.text M ft) :
    Calls Tryz.prog 74 #[.agg (msC m)] w fun e w' => UsQ m N d h b M ft w e w' := by
  have HK : Hid (m.kind = 1) := k
  have HL : Hid (∀ W, Chg w W [] → Cl W m.list N d h b) := fun W q => hL.chg q
  have HT : Hid (∀ W, Chg w W [] → Sl W m.text M ft) := fun W q => hT.chg q (by simp [Off])
  have HE : Hid (EnG m N d M) := hg
  clear hL hT hg k
  go_enter Tryz.func74, Tryz.ntmps74
  obtain ⟨C, hC⟩ : ∃ C, msC m = C := ⟨_, rfl⟩
  rw [hC]
  go_upto_region 1 with (first
    | (with_reducible refine alloc_w rfl 35 rfl (.agg (msC (ms0 0))) zeroMsg (msC (ms0 0)) rfl ?_; intro rb w2 hrb BR k2)
    | (refine box_w rfl 35 _ rfl C rfl ?_; intro mb w1 hmb BM k1))
  have BM2 := BM.chg k2 (by simp)
  have K2 := k1.trans1 k2
  rw [← hC] at BM2
  have HMR : Hid (¬ mb = rb ∧ w.heap.size ≤ rb ∧ mb < w2.heap.size ∧ rb < w2.heap.size) := ⟨fun e => by have := BM.lt; omega, by have := k1.size; omega, BM2.lt, BR.lt⟩
  clear BM k1 k2 hmb hrb hC
  obtain ⟨⟨rA1, rA2, rA3, rA4, rA5⟩, a0, a33, a34, a100, a101, a230⟩ := ms_F BM2
  clear rA2 rA3 rA4 rA5 a100 a101 a230
  go_upto_region 2 with (first
    | (refine wpList_load_mid rfl 24 _ rfl mb 1 rfl (yL 32 m.ses) _ rA1 Tryz.underlying24 rfl (hsI _) ?_)
    | (refine wpList_build4 rfl 35 0 1 2 3 _ _ _ _ rfl (.int .i64 m.kind) (.agg (yL 32 m.ses).toArray) (.int .i64 m.fr) (.int .i64 m.to) rfl rfl rfl rfl (msC (us0 m)) (builtUs m) ?_)
    | (refine store_w BO rfl 35 _ _ (msC (us0 m)) rfl rfl rfl (by rw [msC_size]; exact msInfoW) (by rw [msC_size, msC_size]) (ms_oneC _ rfl rfl) ?_; intro w4 BO4 k4)
    | (with_reducible refine alloc_w rfl 35 rfl (.agg (msC (ms0 0))) zeroMsg (msC (ms0 0)) rfl ?_; intro ob w3 hob BO k3))
  have HOB : Hid (¬ mb = ob ∧ ¬ rb = ob ∧ w.heap.size ≤ ob) := by
    obtain ⟨q1, q2, q3, q4⟩ := HMR.out
    exact ⟨fun e => by omega, fun e => by omega, by have := K2.size; omega⟩
  have k24 := k3.new k4 hob
  have BM4 := BM2.chg k24 (by simp)
  have BR4 := BR.chg k24 (by simp)
  have K4 := K2.trans1 k24
  clear BM2 BR K2 k3 k4 k24 BO hob rA1 a0 a33 a34
  obtain ⟨⟨rA1, rA2, rA3, rA4, rA5⟩, a0, a33, a34, a100, a101, a230⟩ := ms_F BM4
  rw [HK.out] at a0
  go_wp2_with (first
    | (refine wpList_load_row rfl 35 _ rfl ob rfl 35 _ (0, 0) _ BO4 Tryz.underlying35 rfl (by rw [msC_size]; exact msInfoW) ?_)
    | (refine store_w BR4 rfl 35 _ _ (msC (us0 m)) rfl rfl rfl (by rw [msC_size]; exact msInfoW) (by rw [msC_size, msC_size]) (ms_oneC _ rfl rfl) ?_; intro wz BRz kz))
  exact bodyPost_ret (results_cell_row Tryz.results74 _ _ rb 35 (msC (us0 m)) (0, 0) _ rfl BRz Tryz.underlying35 rfl (by rw [msC_size]; exact msInfoW)) rfl ⟨Or.inl ⟨by have := HK.out; omega, by have := HK.out; unfold usM; rw [if_pos (Or.inl (by omega))]⟩, K4.new kz HMR.out.2.1⟩
set_option maxHeartbeats 16000000 in
set_option maxRecDepth 100000 in
theorem Used_2 (m : Ms) (N : Nat) (d : Nat → Int) (h b : Nat → Nat → Nat) (M : Nat) (ft : Nat → Nat) (k : m.kind = 2) (hg : EnG m N d M) (w : World) (hL : Cl w m.list N d h b) (hT : Sl w m.text M ft) :
    Calls Tryz.prog 74 #[.agg (msC m)] w fun e w' => UsQ m N d h b M ft w e w' := by
  have HK : Hid (m.kind = 2) := k
  have HL : Hid (∀ W, Chg w W [] → Cl W m.list N d h b) := fun W q => hL.chg q
  have HT : Hid (∀ W, Chg w W [] → Sl W m.text M ft) := fun W q => hT.chg q (by simp [Off])
  have HE : Hid (EnG m N d M) := hg
  clear hL hT hg k
  go_enter Tryz.func74, Tryz.ntmps74
  obtain ⟨C, hC⟩ : ∃ C, msC m = C := ⟨_, rfl⟩
  rw [hC]
  go_upto_region 1 with (first
    | (with_reducible refine alloc_w rfl 35 rfl (.agg (msC (ms0 0))) zeroMsg (msC (ms0 0)) rfl ?_; intro rb w2 hrb BR k2)
    | (refine box_w rfl 35 _ rfl C rfl ?_; intro mb w1 hmb BM k1))
  have BM2 := BM.chg k2 (by simp)
  have K2 := k1.trans1 k2
  rw [← hC] at BM2
  have HMR : Hid (¬ mb = rb ∧ w.heap.size ≤ rb ∧ mb < w2.heap.size ∧ rb < w2.heap.size) := ⟨fun e => by have := BM.lt; omega, by have := k1.size; omega, BM2.lt, BR.lt⟩
  clear BM k1 k2 hmb hrb hC
  obtain ⟨⟨rA1, rA2, rA3, rA4, rA5⟩, a0, a33, a34, a100, a101, a230⟩ := ms_F BM2
  clear rA2 rA3 rA4 rA5 a100 a101 a230
  go_upto_region 2 with (first
    | (refine wpList_load_mid rfl 24 _ rfl mb 1 rfl (yL 32 m.ses) _ rA1 Tryz.underlying24 rfl (hsI _) ?_)
    | (refine wpList_build4 rfl 35 0 1 2 3 _ _ _ _ rfl (.int .i64 m.kind) (.agg (yL 32 m.ses).toArray) (.int .i64 m.fr) (.int .i64 m.to) rfl rfl rfl rfl (msC (us0 m)) (builtUs m) ?_)
    | (refine store_w BO rfl 35 _ _ (msC (us0 m)) rfl rfl rfl (by rw [msC_size]; exact msInfoW) (by rw [msC_size, msC_size]) (ms_oneC _ rfl rfl) ?_; intro w4 BO4 k4)
    | (with_reducible refine alloc_w rfl 35 rfl (.agg (msC (ms0 0))) zeroMsg (msC (ms0 0)) rfl ?_; intro ob w3 hob BO k3))
  have HOB : Hid (¬ mb = ob ∧ ¬ rb = ob ∧ w.heap.size ≤ ob) := by
    obtain ⟨q1, q2, q3, q4⟩ := HMR.out
    exact ⟨fun e => by omega, fun e => by omega, by have := K2.size; omega⟩
  have k24 := k3.new k4 hob
  have BM4 := BM2.chg k24 (by simp)
  have BR4 := BR.chg k24 (by simp)
  have K4 := K2.trans1 k24
  clear BM2 BR K2 k3 k4 k24 BO hob rA1 a0 a33 a34
  obtain ⟨⟨rA1, rA2, rA3, rA4, rA5⟩, a0, a33, a34, a100, a101, a230⟩ := ms_F BM4
  rw [HK.out] at a0
  go_upto_region 16 with (first
    | (refine wpList_load_mid rfl 27 _ rfl mb 35 rfl (.int .i64 m.id :: (yL 32 m.hid ++ yL 32 m.bnd)) _ rA2 Tryz.underlying27 rfl (cmI _ _ _) ?_)
    | (refine store_row rfl 27 _ _ rfl ob 35 (us0 m) ({ us0 m with id := m.id, hid := m.hid, bnd := m.bnd }) (.int .i64 m.id :: (yL 32 m.hid ++ yL 32 m.bnd)) rfl rfl BO4 (by simp [yL]) (cmI _ _ _) (row_1 _ _ _) (ms_set_pair _ _ _ _) ?_; intro w5 BO5 k5))
  have BR5 := BR4.chg k5 (by have := HOB.out; simp; omega)
  have BM5 := BM4.chg k5 (by have := HOB.out; simp; omega)
  have K5 := K4.new k5 HOB.out.2.2
  clear BR4 BM4 K4 k5 BO4 rA1 rA2 rA3 rA4 rA5 a33 a34 a100 a101 a230
  obtain ⟨⟨rA1, rA2, rA3, rA4, rA5⟩, a0', a33, a34, a100, a101, a230⟩ := ms_F BM5
  clear a0'
  go_wp2_with (first
    | (refine wpList_load_row rfl 35 _ rfl ob rfl 35 _ (0, 0) _ BO5 Tryz.underlying35 rfl (by rw [msC_size]; exact msInfoW) ?_)
    | (refine store_w BR5 rfl 35 _ _ (msC { us0 m with id := m.id, hid := m.hid, bnd := m.bnd }) rfl rfl rfl (by rw [msC_size]; exact msInfoW) (by rw [msC_size, msC_size]) (ms_oneC _ rfl rfl) ?_; intro wz BRz kz))
  exact bodyPost_ret (results_cell_row Tryz.results74 _ _ rb 35 (msC { us0 m with id := m.id, hid := m.hid, bnd := m.bnd }) (0, 0) _ rfl BRz Tryz.underlying35 rfl (by rw [msC_size]; exact msInfoW)) rfl ⟨Or.inl ⟨by have := HK.out; omega, by have := HK.out; unfold usM; rw [if_neg (by omega), if_pos (by omega)]⟩, K5.new kz HMR.out.2.1⟩
set_option maxHeartbeats 16000000 in
set_option maxRecDepth 100000 in
theorem Used_4 (m : Ms) (N : Nat) (d : Nat → Int) (h b : Nat → Nat → Nat) (M : Nat) (ft : Nat → Nat) (k : m.kind = 4) (hg : EnG m N d M) (w : World) (hL : Cl w m.list N d h b) (hT : Sl w m.text M ft) :
    Calls Tryz.prog 74 #[.agg (msC m)] w fun e w' => UsQ m N d h b M ft w e w' := by
  have HK : Hid (m.kind = 4) := k
  have HL : Hid (∀ W, Chg w W [] → Cl W m.list N d h b) := fun W q => hL.chg q
  have HT : Hid (∀ W, Chg w W [] → Sl W m.text M ft) := fun W q => hT.chg q (by simp [Off])
  have HE : Hid (EnG m N d M) := hg
  clear hL hT hg k
  go_enter Tryz.func74, Tryz.ntmps74
  obtain ⟨C, hC⟩ : ∃ C, msC m = C := ⟨_, rfl⟩
  rw [hC]
  go_upto_region 1 with (first
    | (with_reducible refine alloc_w rfl 35 rfl (.agg (msC (ms0 0))) zeroMsg (msC (ms0 0)) rfl ?_; intro rb w2 hrb BR k2)
    | (refine box_w rfl 35 _ rfl C rfl ?_; intro mb w1 hmb BM k1))
  have BM2 := BM.chg k2 (by simp)
  have K2 := k1.trans1 k2
  rw [← hC] at BM2
  have HMR : Hid (¬ mb = rb ∧ w.heap.size ≤ rb ∧ mb < w2.heap.size ∧ rb < w2.heap.size) := ⟨fun e => by have := BM.lt; omega, by have := k1.size; omega, BM2.lt, BR.lt⟩
  clear BM k1 k2 hmb hrb hC
  obtain ⟨⟨rA1, rA2, rA3, rA4, rA5⟩, a0, a33, a34, a100, a101, a230⟩ := ms_F BM2
  clear rA2 rA3 rA4 rA5 a100 a101 a230
  go_upto_region 2 with (first
    | (refine wpList_load_mid rfl 24 _ rfl mb 1 rfl (yL 32 m.ses) _ rA1 Tryz.underlying24 rfl (hsI _) ?_)
    | (refine wpList_build4 rfl 35 0 1 2 3 _ _ _ _ rfl (.int .i64 m.kind) (.agg (yL 32 m.ses).toArray) (.int .i64 m.fr) (.int .i64 m.to) rfl rfl rfl rfl (msC (us0 m)) (builtUs m) ?_)
    | (refine store_w BO rfl 35 _ _ (msC (us0 m)) rfl rfl rfl (by rw [msC_size]; exact msInfoW) (by rw [msC_size, msC_size]) (ms_oneC _ rfl rfl) ?_; intro w4 BO4 k4)
    | (with_reducible refine alloc_w rfl 35 rfl (.agg (msC (ms0 0))) zeroMsg (msC (ms0 0)) rfl ?_; intro ob w3 hob BO k3))
  have HOB : Hid (¬ mb = ob ∧ ¬ rb = ob ∧ w.heap.size ≤ ob) := by
    obtain ⟨q1, q2, q3, q4⟩ := HMR.out
    exact ⟨fun e => by omega, fun e => by omega, by have := K2.size; omega⟩
  have k24 := k3.new k4 hob
  have BM4 := BM2.chg k24 (by simp)
  have BR4 := BR.chg k24 (by simp)
  have K4 := K2.trans1 k24
  clear BM2 BR K2 k3 k4 k24 BO hob rA1 a0 a33 a34
  obtain ⟨⟨rA1, rA2, rA3, rA4, rA5⟩, a0, a33, a34, a100, a101, a230⟩ := ms_F BM4
  rw [HK.out] at a0
  go_upto_region 10 with (first
    | (refine wpList_load_mid rfl 27 _ rfl mb 35 rfl (.int .i64 m.id :: (yL 32 m.hid ++ yL 32 m.bnd)) _ rA2 Tryz.underlying27 rfl (cmI _ _ _) ?_)
    | (refine store_row rfl 27 _ _ rfl ob 35 (us0 m) ({ us0 m with id := m.id, hid := m.hid, bnd := m.bnd }) (.int .i64 m.id :: (yL 32 m.hid ++ yL 32 m.bnd)) rfl rfl BO4 (by simp [yL]) (cmI _ _ _) (row_1 _ _ _) (ms_set_pair _ _ _ _) ?_; intro w5 BO5 k5))
  have BR5 := BR4.chg k5 (by have := HOB.out; simp; omega)
  have BM5 := BM4.chg k5 (by have := HOB.out; simp; omega)
  have K5 := K4.new k5 HOB.out.2.2
  clear BR4 BM4 K4 k5 BO4 rA1 rA2 rA3 rA4 rA5 a33 a34 a100 a101 a230
  obtain ⟨⟨rA1, rA2, rA3, rA4, rA5⟩, a0', a33, a34, a100, a101, a230⟩ := ms_F BM5
  clear a0'
  go_upto_region 11 with (first
    | (refine wpList_load_mid rfl 24 _ rfl mb 102 rfl (yL 32 m.bind) _ rA3 Tryz.underlying24 rfl (hsI _) ?_)
    | (refine store_row rfl 24 _ _ rfl ob 102 ({ us0 m with id := m.id, hid := m.hid, bnd := m.bnd }) ({ ({ us0 m with id := m.id, hid := m.hid, bnd := m.bnd } : Ms) with bind := m.bind }) (yL 32 m.bind) rfl rfl BO5 (by simp [yL]) (hsI _) (yL_1 _ _) (ms_set_bind _ _) ?_; intro w6 BO6 k6))
  have BR6 := BR5.chg k6 (by have := HOB.out; simp; omega)
  have BM6 := BM5.chg k6 (by have := HOB.out; simp; omega)
  have K6 := K5.new k6 HOB.out.2.2
  clear BR5 BM5 K5 k6 BO5 rA1 rA2 rA3 rA4 rA5 a33 a34 a100 a101 a230
  obtain ⟨⟨rA1, rA2, rA3, rA4, rA5⟩, a0', a33, a34, a100, a101, a230⟩ := ms_F BM6
  clear a0'
  go_upto_region 16 with (first
    | (refine wpList_load_mid rfl 30 _ rfl mb 134 rfl (yL 32 m.share) _ rA4 Tryz.underlying30 rfl (scI _) ?_)
    | (refine store_row rfl 30 _ _ rfl ob 134 ({ ({ us0 m with id := m.id, hid := m.hid, bnd := m.bnd } : Ms) with bind := m.bind }) ({ ({ ({ us0 m with id := m.id, hid := m.hid, bnd := m.bnd } : Ms) with bind := m.bind } : Ms) with share := m.share }) (yL 32 m.share) rfl rfl BO6 (by simp [yL]) (scI _) (yL_1 _ _) (ms_set_share _ _) ?_; intro w7 BO7 k7))
  have BR7 := BR6.chg k7 (by have := HOB.out; simp; omega)
  have BM7 := BM6.chg k7 (by have := HOB.out; simp; omega)
  have K7 := K6.new k7 HOB.out.2.2
  clear BR6 BM6 K6 k7 BO6 rA1 rA2 rA3 rA4 rA5 a33 a34 a100 a101 a230
  obtain ⟨⟨rA1, rA2, rA3, rA4, rA5⟩, a0', a33, a34, a100, a101, a230⟩ := ms_F BM7
  clear a0'
  go_wp2_with (first
    | (refine wpList_load_row rfl 35 _ rfl ob rfl 35 _ (0, 0) _ BO7 Tryz.underlying35 rfl (by rw [msC_size]; exact msInfoW) ?_)
    | (refine store_w BR7 rfl 35 _ _ (msC { us0 m with id := m.id, hid := m.hid, bnd := m.bnd, bind := m.bind, share := m.share }) rfl rfl rfl (by rw [msC_size]; exact msInfoW) (by rw [msC_size, msC_size]) (ms_oneC _ rfl rfl) ?_; intro wz BRz kz))
  exact bodyPost_ret (results_cell_row Tryz.results74 _ _ rb 35 (msC { us0 m with id := m.id, hid := m.hid, bnd := m.bnd, bind := m.bind, share := m.share }) (0, 0) _ rfl BRz Tryz.underlying35 rfl (by rw [msC_size]; exact msInfoW)) rfl ⟨Or.inl ⟨by have := HK.out; omega, by have := HK.out; unfold usM; rw [if_neg (by omega), if_neg (by omega), if_pos (by omega)]⟩, K7.new kz HMR.out.2.1⟩
set_option maxHeartbeats 16000000 in
set_option maxRecDepth 100000 in
theorem Used_6 (m : Ms) (N : Nat) (d : Nat → Int) (h b : Nat → Nat → Nat) (M : Nat) (ft : Nat → Nat) (k : m.kind = 6) (hg : EnG m N d M) (w : World) (hL : Cl w m.list N d h b) (hT : Sl w m.text M ft) :
    Calls Tryz.prog 74 #[.agg (msC m)] w fun e w' => UsQ m N d h b M ft w e w' := by
  have HK : Hid (m.kind = 6) := k
  have HL : Hid (∀ W, Chg w W [] → Cl W m.list N d h b) := fun W q => hL.chg q
  have HT : Hid (∀ W, Chg w W [] → Sl W m.text M ft) := fun W q => hT.chg q (by simp [Off])
  have HE : Hid (EnG m N d M) := hg
  clear hL hT hg k
  go_enter Tryz.func74, Tryz.ntmps74
  obtain ⟨C, hC⟩ : ∃ C, msC m = C := ⟨_, rfl⟩
  rw [hC]
  go_upto_region 1 with (first
    | (with_reducible refine alloc_w rfl 35 rfl (.agg (msC (ms0 0))) zeroMsg (msC (ms0 0)) rfl ?_; intro rb w2 hrb BR k2)
    | (refine box_w rfl 35 _ rfl C rfl ?_; intro mb w1 hmb BM k1))
  have BM2 := BM.chg k2 (by simp)
  have K2 := k1.trans1 k2
  rw [← hC] at BM2
  have HMR : Hid (¬ mb = rb ∧ w.heap.size ≤ rb ∧ mb < w2.heap.size ∧ rb < w2.heap.size) := ⟨fun e => by have := BM.lt; omega, by have := k1.size; omega, BM2.lt, BR.lt⟩
  clear BM k1 k2 hmb hrb hC
  obtain ⟨⟨rA1, rA2, rA3, rA4, rA5⟩, a0, a33, a34, a100, a101, a230⟩ := ms_F BM2
  clear rA2 rA3 rA4 rA5 a100 a101 a230
  go_upto_region 2 with (first
    | (refine wpList_load_mid rfl 24 _ rfl mb 1 rfl (yL 32 m.ses) _ rA1 Tryz.underlying24 rfl (hsI _) ?_)
    | (refine wpList_build4 rfl 35 0 1 2 3 _ _ _ _ rfl (.int .i64 m.kind) (.agg (yL 32 m.ses).toArray) (.int .i64 m.fr) (.int .i64 m.to) rfl rfl rfl rfl (msC (us0 m)) (builtUs m) ?_)
    | (refine store_w BO rfl 35 _ _ (msC (us0 m)) rfl rfl rfl (by rw [msC_size]; exact msInfoW) (by rw [msC_size, msC_size]) (ms_oneC _ rfl rfl) ?_; intro w4 BO4 k4)
    | (with_reducible refine alloc_w rfl 35 rfl (.agg (msC (ms0 0))) zeroMsg (msC (ms0 0)) rfl ?_; intro ob w3 hob BO k3))
  have HOB : Hid (¬ mb = ob ∧ ¬ rb = ob ∧ w.heap.size ≤ ob) := by
    obtain ⟨q1, q2, q3, q4⟩ := HMR.out
    exact ⟨fun e => by omega, fun e => by omega, by have := K2.size; omega⟩
  have k24 := k3.new k4 hob
  have BM4 := BM2.chg k24 (by simp)
  have BR4 := BR.chg k24 (by simp)
  have K4 := K2.trans1 k24
  clear BM2 BR K2 k3 k4 k24 BO hob rA1 a0 a33 a34
  obtain ⟨⟨rA1, rA2, rA3, rA4, rA5⟩, a0, a33, a34, a100, a101, a230⟩ := ms_F BM4
  rw [HK.out] at a0
  go_upto_region 16 with (first
    | (refine wpList_load_mid rfl 32 _ rfl mb 166 rfl (yL 64 m.sig) _ rA5 Tryz.underlying32 rfl (sgI _) ?_)
    | (refine store_row rfl 32 _ _ rfl ob 166 (us0 m) ({ us0 m with sig := m.sig }) (yL 64 m.sig) rfl rfl BO4 (by simp [yL]) (sgI _) (yL_1 _ _) (ms_set_sig _ _) ?_; intro w5 BO5 k5))
  have BR5 := BR4.chg k5 (by have := HOB.out; simp; omega)
  have BM5 := BM4.chg k5 (by have := HOB.out; simp; omega)
  have K5 := K4.new k5 HOB.out.2.2
  clear BR4 BM4 K4 k5 BO4 rA1 rA2 rA3 rA4 rA5 a33 a34 a100 a101 a230
  obtain ⟨⟨rA1, rA2, rA3, rA4, rA5⟩, a0', a33, a34, a100, a101, a230⟩ := ms_F BM5
  clear a0'
  go_wp2_with (first
    | (refine wpList_load_row rfl 35 _ rfl ob rfl 35 _ (0, 0) _ BO5 Tryz.underlying35 rfl (by rw [msC_size]; exact msInfoW) ?_)
    | (refine store_w BR5 rfl 35 _ _ (msC { us0 m with sig := m.sig }) rfl rfl rfl (by rw [msC_size]; exact msInfoW) (by rw [msC_size, msC_size]) (ms_oneC _ rfl rfl) ?_; intro wz BRz kz))
  exact bodyPost_ret (results_cell_row Tryz.results74 _ _ rb 35 (msC { us0 m with sig := m.sig }) (0, 0) _ rfl BRz Tryz.underlying35 rfl (by rw [msC_size]; exact msInfoW)) rfl ⟨Or.inl ⟨by have := HK.out; omega, by have := HK.out; unfold usM; rw [if_neg (by omega), if_neg (by omega), if_neg (by omega), if_neg (by omega)]⟩, K5.new kz HMR.out.2.1⟩
set_option maxHeartbeats 16000000 in
set_option maxRecDepth 100000 in
theorem Used_5 (m : Ms) (N : Nat) (d : Nat → Int) (h b : Nat → Nat → Nat) (M : Nat) (ft : Nat → Nat) (k : m.kind = 5) (hg : EnG m N d M) (w : World) (hL : Cl w m.list N d h b) (hT : Sl w m.text M ft) :
    Calls Tryz.prog 74 #[.agg (msC m)] w fun e w' => UsQ m N d h b M ft w e w' := by
  have HK : Hid (m.kind = 5) := k
  have HL : Hid (∀ W, Chg w W [] → Cl W m.list N d h b) := fun W q => hL.chg q
  have HT : Hid (∀ W, Chg w W [] → Sl W m.text M ft) := fun W q => hT.chg q (by simp [Off])
  have HE : Hid (EnG m N d M) := hg
  clear hL hT hg k
  go_enter Tryz.func74, Tryz.ntmps74
  obtain ⟨C, hC⟩ : ∃ C, msC m = C := ⟨_, rfl⟩
  rw [hC]
  go_upto_region 1 with (first
    | (with_reducible refine alloc_w rfl 35 rfl (.agg (msC (ms0 0))) zeroMsg (msC (ms0 0)) rfl ?_; intro rb w2 hrb BR k2)
    | (refine box_w rfl 35 _ rfl C rfl ?_; intro mb w1 hmb BM k1))
  have BM2 := BM.chg k2 (by simp)
  have K2 := k1.trans1 k2
  rw [← hC] at BM2
  have HMR : Hid (¬ mb = rb ∧ w.heap.size ≤ rb ∧ mb < w2.heap.size ∧ rb < w2.heap.size) := ⟨fun e => by have := BM.lt; omega, by have := k1.size; omega, BM2.lt, BR.lt⟩
  clear BM k1 k2 hmb hrb hC
  obtain ⟨⟨rA1, rA2, rA3, rA4, rA5⟩, a0, a33, a34, a100, a101, a230⟩ := ms_F BM2
  clear rA2 rA3 rA4 rA5 a100 a101 a230
  go_upto_region 2 with (first
    | (refine wpList_load_mid rfl 24 _ rfl mb 1 rfl (yL 32 m.ses) _ rA1 Tryz.underlying24 rfl (hsI _) ?_)
    | (refine wpList_build4 rfl 35 0 1 2 3 _ _ _ _ rfl (.int .i64 m.kind) (.agg (yL 32 m.ses).toArray) (.int .i64 m.fr) (.int .i64 m.to) rfl rfl rfl rfl (msC (us0 m)) (builtUs m) ?_)
    | (refine store_w BO rfl 35 _ _ (msC (us0 m)) rfl rfl rfl (by rw [msC_size]; exact msInfoW) (by rw [msC_size, msC_size]) (ms_oneC _ rfl rfl) ?_; intro w4 BO4 k4)
    | (with_reducible refine alloc_w rfl 35 rfl (.agg (msC (ms0 0))) zeroMsg (msC (ms0 0)) rfl ?_; intro ob w3 hob BO k3))
  have HOB : Hid (¬ mb = ob ∧ ¬ rb = ob ∧ w.heap.size ≤ ob) := by
    obtain ⟨q1, q2, q3, q4⟩ := HMR.out
    exact ⟨fun e => by omega, fun e => by omega, by have := K2.size; omega⟩
  have k24 := k3.new k4 hob
  have BM4 := BM2.chg k24 (by simp)
  have BR4 := BR.chg k24 (by simp)
  have K4 := K2.trans1 k24
  clear BM2 BR K2 k3 k4 k24 BO hob rA1 a0 a33 a34
  obtain ⟨⟨rA1, rA2, rA3, rA4, rA5⟩, a0, a33, a34, a100, a101, a230⟩ := ms_F BM4
  rw [HK.out] at a0
  have hr := BO4.frozen 230
  have hc := (BO4.cell 230).trans (show (msC (us0 m))[230]? = some (.int .i64 0) from by unfold msC; rw [List.getElem?_toArray]; exact ms_code _)
  have BO5 := (BO4.setCell 230 (.int .i64 m.code)).to (ms_set_code _ m.code)
  have BR5 := BR4.setOther HOB.out.2.1 230 (.int .i64 m.code)
  have K5 := K4.setNew HOB.out.2.2 230 (.int .i64 m.code)
  go_wp2_with (first
    | (refine wpList_load_row rfl 35 _ rfl ob rfl 35 _ (0, 0) _ BO5 Tryz.underlying35 rfl (by rw [msC_size]; exact msInfoW) ?_)
    | (refine store_w BR5 rfl 35 _ _ (msC { us0 m with code := m.code }) rfl rfl rfl (by rw [msC_size]; exact msInfoW) (by rw [msC_size, msC_size]) (ms_oneC _ rfl rfl) ?_; intro wz BRz kz))
  exact bodyPost_ret (results_cell_row Tryz.results74 _ _ rb 35 (msC { us0 m with code := m.code }) (0, 0) _ rfl BRz Tryz.underlying35 rfl (by rw [msC_size]; exact msInfoW)) rfl ⟨Or.inl ⟨by have := HK.out; omega, by have := HK.out; unfold usM; rw [if_neg (by omega), if_neg (by omega), if_neg (by omega), if_pos (by omega)]⟩, K5.new kz HMR.out.2.1⟩
set_option maxHeartbeats 16000000 in
set_option maxRecDepth 100000 in
theorem Used_3 (m : Ms) (N : Nat) (d : Nat → Int) (h b : Nat → Nat → Nat) (M : Nat) (ft : Nat → Nat) (k : m.kind = 3) (hg : EnG m N d M) (w : World) (hL : Cl w m.list N d h b) (hT : Sl w m.text M ft) :
    Calls Tryz.prog 74 #[.agg (msC m)] w fun e w' => UsQ m N d h b M ft w e w' := by
  have HK : Hid (m.kind = 3) := k
  have HL : Hid (∀ W, Chg w W [] → Cl W m.list N d h b) := fun W q => hL.chg q
  have HT : Hid (∀ W, Chg w W [] → Sl W m.text M ft) := fun W q => hT.chg q (by simp [Off])
  have HE : Hid (EnG m N d M) := hg
  clear hL hT hg k
  go_enter Tryz.func74, Tryz.ntmps74
  obtain ⟨C, hC⟩ : ∃ C, msC m = C := ⟨_, rfl⟩
  rw [hC]
  go_upto_region 1 with (first
    | (with_reducible refine alloc_w rfl 35 rfl (.agg (msC (ms0 0))) zeroMsg (msC (ms0 0)) rfl ?_; intro rb w2 hrb BR k2)
    | (refine box_w rfl 35 _ rfl C rfl ?_; intro mb w1 hmb BM k1))
  have BM2 := BM.chg k2 (by simp)
  have K2 := k1.trans1 k2
  rw [← hC] at BM2
  have HMR : Hid (¬ mb = rb ∧ w.heap.size ≤ rb ∧ mb < w2.heap.size ∧ rb < w2.heap.size) := ⟨fun e => by have := BM.lt; omega, by have := k1.size; omega, BM2.lt, BR.lt⟩
  clear BM k1 k2 hmb hrb hC
  obtain ⟨⟨rA1, rA2, rA3, rA4, rA5⟩, a0, a33, a34, a100, a101, a230⟩ := ms_F BM2
  clear rA2 rA3 rA4 rA5 a100 a101 a230
  go_upto_region 2 with (first
    | (refine wpList_load_mid rfl 24 _ rfl mb 1 rfl (yL 32 m.ses) _ rA1 Tryz.underlying24 rfl (hsI _) ?_)
    | (refine wpList_build4 rfl 35 0 1 2 3 _ _ _ _ rfl (.int .i64 m.kind) (.agg (yL 32 m.ses).toArray) (.int .i64 m.fr) (.int .i64 m.to) rfl rfl rfl rfl (msC (us0 m)) (builtUs m) ?_)
    | (refine store_w BO rfl 35 _ _ (msC (us0 m)) rfl rfl rfl (by rw [msC_size]; exact msInfoW) (by rw [msC_size, msC_size]) (ms_oneC _ rfl rfl) ?_; intro w4 BO4 k4)
    | (with_reducible refine alloc_w rfl 35 rfl (.agg (msC (ms0 0))) zeroMsg (msC (ms0 0)) rfl ?_; intro ob w3 hob BO k3))
  have HOB : Hid (¬ mb = ob ∧ ¬ rb = ob ∧ w.heap.size ≤ ob) := by
    obtain ⟨q1, q2, q3, q4⟩ := HMR.out
    exact ⟨fun e => by omega, fun e => by omega, by have := K2.size; omega⟩
  have k24 := k3.new k4 hob
  have BM4 := BM2.chg k24 (by simp)
  have BR4 := BR.chg k24 (by simp)
  have K4 := K2.trans1 k24
  clear BM2 BR K2 k3 k4 k24 BO hob rA1 a0 a33 a34
  obtain ⟨⟨rA1, rA2, rA3, rA4, rA5⟩, a0, a33, a34, a100, a101, a230⟩ := ms_F BM4
  rw [HK.out] at a0
  obtain ⟨ie, hie, _⟩ := cmRow
  obtain ⟨iu, hiu⟩ := u8RowU
  have HNM : Hid (N ≤ 255 ∧ M ≤ 1048575) := ⟨(HE.out.2.2.2.2.1 HK.out).1, (HE.out.2.2.2.2.1 HK.out).2.2⟩
  have HCL : Hid (Cl w4 m.list N d h b) := HL.out w4 K4
  have HBS : Hid (ob < w4.heap.size ∧ rb < w4.heap.size ∧ mb < w4.heap.size ∧ w.heap.size ≤ w4.heap.size) := ⟨BO4.lt, BR4.lt, BM4.lt, K4.size⟩
  obtain ⟨vl0, hvl⟩ : ∃ v, m.list = v := ⟨_, rfl⟩
  obtain ⟨vt0, hvt⟩ : ∃ v, m.text = v := ⟨_, rfl⟩
  rw [hvl] at HCL a100
  rw [hvt] at HT a101
  go_upto_region 7 with (first
    | (refine bs0 rfl 28 27 rfl ie Tryz.underlying28 hie ?_; intro lb w5 hlb BL k5; have a100b := (ms_F (BM4.chg k5 (by simp))).2.2.2.2.1; rw [hvl] at a100b)
    | (refine app_cl rfl _ _ rfl w4.heap.size lb vl0 N d h b rfl rfl BL hlb (HCL.out.chg k5) HNM.out.1 k5.size ?_; intro p6 c6 w6 OL k6
       have BO6 := (BO4.chg k5 (by simp)).chg k6 (by have := HBS.out; simp; omega)
       have cO := (BO6.cell 100).trans (show (msC (us0 m))[100]? = some (.slice none 0 0) from by unfold msC; rw [List.getElem?_toArray]; exact ms_list _)
       have fO := BO6.frozen 100))
  have HLB : Hid (w.heap.size ≤ lb ∧ ¬ mb = lb ∧ ¬ rb = lb) := ⟨by have := HBS.out; omega, by have := HBS.out; omega, by have := HBS.out; omega⟩
  have BM6 := (BM4.chg k5 (by simp)).chg k6 (by have := HLB.out; simp; omega)
  have BR6 := (BR4.chg k5 (by simp)).chg k6 (by have := HLB.out; simp; omega)
  have K6 := (K4.trans1 k5).new k6 HLB.out.1
  have ks := (Chg.refl w6 [ob]).setIn (k := ob) (by simp) 100 (.slice p6 N c6)
  have K7 := K6.new ks HOB.out.2.2
  have OL7 := OL.far ks (fun y hy => by simp at hy; subst hy; exact HBS.out.1)
  have BO7 := (BO6.setCell 100 (.slice p6 N c6)).to (ms_set_list _ _)
  have BM7 := BM6.setOther HOB.out.1 100 (.slice p6 N c6)
  have BR7 := BR6.setOther HOB.out.2.1 100 (.slice p6 N c6)
  clear BM4 BO4 BR4 K4 BL k5 hlb k6 BO6 cO fO OL BM6 BR6 K6 ks a100 a101 a0 a33 a34 a230 rA1 rA2 rA3 rA4 rA5 a100b
  generalize (w6.setCell ⟨ob, 100, none⟩ (.slice p6 N c6)) = w7 at *
  have a101c := (ms_F BM7).2.2.2.2.2.1
  rw [hvt] at a101c
  have HB7 : Hid (ob < w7.heap.size ∧ rb < w7.heap.size ∧ mb < w7.heap.size ∧ w.heap.size ≤ w7.heap.size) := ⟨BO7.lt, BR7.lt, BM7.lt, K7.size⟩
  go_upto_region 16 with (first
    | (refine bs0 rfl 29 5 rfl iu Tryz.underlying29 hiu ?_; intro tb w8 htb BT k8; have a101b := (ms_F (BM7.chg k8 (by simp))).2.2.2.2.2.1; rw [hvt] at a101b)
    | (refine append_y rfl _ _ rfl w7.heap.size (.slice (some ⟨tb, 0, none⟩) 0 0) vt0 0 M (fun _ => 0) ft rfl rfl ⟨own0 BT htb, fun i hi => by omega⟩ (HT.out w8 (K7.trans1 k8)) (by have := HNM.out; omega) k8.size ?_; intro vt9 w9 OT k9
       rw [cat_0u, Nat.zero_add] at OT
       obtain ⟨p9, c9, rfl⟩ := slFm OT.sl
       have k9 : Chg w8 w9 [tb] := k9
       have BO9 := (BO7.chg k8 (by simp)).chg k9 (by have := HB7.out; simp; omega)
       have cO := (BO9.cell 101).trans (show (msC { us0 m with list := .slice p6 N c6 })[101]? = some (.slice none 0 0) from by unfold msC; rw [List.getElem?_toArray]; exact ms_text _)
       have fO := BO9.frozen 101))
  have HTB : Hid (w.heap.size ≤ tb ∧ ¬ mb = tb ∧ ¬ rb = tb ∧ w7.heap.size ≤ tb) := ⟨by have := HB7.out; omega, by have := HB7.out; omega, by have := HB7.out; omega, htb⟩
  have BR9 := (BR7.chg k8 (by simp)).chg k9 (by have := HTB.out; simp; omega)
  have K9 := (K7.trans1 k8).new k9 HTB.out.1
  have ks := (Chg.refl w9 [ob]).setIn (k := ob) (by simp) 101 (.slice p9 M c9)
  have K10 := K9.new ks HOB.out.2.2
  have OL8 := OL7.far k8 (fun y hy => by simp at hy)
  have OL9 := OL8.chg k9 (fun k hk hm => by have h1 := OL7.lts k hk; have h2 := HTB.out.2.2.2; simp at hm; omega)
  have OL10 := OL9.far ks (fun y hy => by simp at hy; subst hy; exact HBS.out.1)
  have OT10 := OT.far ks (fun y hy => by simp at hy; subst hy; exact HB7.out.1)
  have BO10 := (BO9.setCell 101 (.slice p9 M c9)).to (show _ = msC { us0 m with list := .slice p6 N c6, text := .slice p9 M c9 } from ms_set_text _ _)
  have BR10 := BR9.setOther HOB.out.2.1 101 (.slice p9 M c9)
  clear BM7 BO7 BR7 K7 BT k8 htb k9 BO9 cO fO OT BR9 K9 ks OL7 OL8 OL9 a101c a101b
  generalize (w9.setCell ⟨ob, 101, none⟩ (.slice p9 M c9)) = w10 at *
  go_wp2_with (first
    | (refine wpList_load_row rfl 35 _ rfl ob rfl 35 _ (0, 0) _ BO10 Tryz.underlying35 rfl (by rw [msC_size]; exact msInfoW) ?_)
    | (refine store_w BR10 rfl 35 _ _ (msC { us0 m with list := .slice p6 N c6, text := .slice p9 M c9 }) rfl rfl rfl (by rw [msC_size]; exact msInfoW) (by rw [msC_size, msC_size]) (ms_oneC _ rfl rfl) ?_; intro wz BRz kz))
  exact bodyPost_ret (results_cell_row Tryz.results74 _ _ rb 35 (msC { us0 m with list := .slice p6 N c6, text := .slice p9 M c9 }) (0, 0) _ rfl BRz Tryz.underlying35 rfl (by rw [msC_size]; exact msInfoW)) rfl ⟨Or.inr ⟨HK.out, _, _, rfl, ⟨ownsRow_base (OL10.far kz (fun y hy => by simp at hy; subst hy; exact HBS.out.2.1)).1 HBS.out.2.2.2, (OL10.far kz (fun y hy => by simp at hy; subst hy; exact HBS.out.2.1)).2⟩, HCL.out.2, ⟨ownsRow_base (OT10.far kz (fun y hy => by simp at hy; subst hy; exact HB7.out.2.1)).1 HB7.out.2.2.2, (OT10.far kz (fun y hy => by simp at hy; subst hy; exact HB7.out.2.1)).2⟩⟩, K10.new kz HMR.out.2.1⟩
end Go.Proofs.YtgfeopingompdaaGreatDoor
