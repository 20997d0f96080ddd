/- shamir.idsOf, distances, inverseGaps. -/
import Derived.Test.YtledggdoehnlcaaGreatSh7
import Derived.Test.YtledggdoehnlcaaGreatSInv
import Derived.Test.YtledggdoehnlcaaGreatLst2
set_option linter.unusedVariables false
set_option linter.unusedSimpArgs false
set_option linter.unnecessarySimpa false
namespace Go.Proofs.YtledggdoehnlcaaGreat
open Go.RowKit N

/-! ### Ints in a block -/
def iF (f : Nat → Int) : Nat → List Value := fun j => [.int .i64 (f j)]
theorem iF_ok (N : Nat) (f : Nat → Int) : Rok 1 N (iF f) := fun i _ => ⟨rfl, fun v hv => by unfold iF at hv; simp at hv; subst hv; rfl⟩
def Ib (w : World) (o N : Nat) (f : Nat → Int) : Prop := Blk w o (rL 1 N (iF f)).toArray 3
theorem Ib.chg {w w' : World} {o N : Nat} {f : Nat → Int} {l : List Nat} (h : Ib w o N f) (hc : Chg w w' l) (ho : ¬ o ∈ l) : Ib w' o N f := Blk.chg h hc ho
theorem Ib.congr {w : World} {o N : Nat} {f f' : Nat → Int} (h : Ib w o N f) (hf : ∀ j, j < N → f j = f' j) : Ib w o N f' := Blk.to h (congrArg List.toArray (rL_congr fun j hj => by unfold iF; rw [hf j hj]))
theorem Ib.lt {w : World} {o N : Nat} {f : Nat → Int} (h : Ib w o N f) : o < w.heap.size := Blk.lt h
theorem Ib.il {w : World} {o N : Nat} {f : Nat → Int} (h : Ib w o N f) (hN : N ≤ 9223372036854775807) : Il w (.slice (some ⟨o, 0, none⟩) N N) N f :=
  Or.inr ⟨o, 0, N, rfl, Nat.le_refl _, hN, h.lt, fun i hi => by
    have := Blk.rangeRw h (iF_ok N f) hi 0 (.int .i64 (f i)) rfl
    rw [Nat.mul_one, Nat.add_zero] at this
    rw [Nat.zero_add]
    exact this⟩
theorem ib_set {w : World} {o N : Nat} {f : Nat → Int} (h : Ib w o N f) {i : Nat} (hi : i < N) (x : Int) : Ib (w.setCell ⟨o, i, none⟩ (.int .i64 x)) o N (upS f i x) := by
  have h2 := Blk.setRw h (iF_ok N f) hi (x := [.int .i64 x]) rfl (by simp [Value.oneCell'])
  rw [Nat.mul_one] at h2
  refine Blk.to (c := (rL 1 N (upR (iF f) i [.int .i64 x])).toArray) h2 (congrArg List.toArray (rL_congr fun j _ => ?_))
  unfold upR iF upS
  by_cases h3 : j = i
  · rw [if_pos h3, if_pos h3]
  · rw [if_neg h3, if_neg h3]
theorem store_ib {w : World} {ops : Array Oper} {rest : List Oper} {op : Oper} {a : Act} {Q : Exit → Act → World → Prop} (hgd : op.guard = none) (x y : Operand) (ho : op.op = .store 3 x y) (b N i : Nat) (f : Nat → Int) (X : Int) (hx : a.eval x = .pointer (some ⟨b, i, none⟩)) (hy : a.eval y = .int .i64 X) (hb : Ib w b N f) (hi : i < N)
    (h : ∀ w', Ib w' b N (upS f i X) → Chg w w' [b] → wpList Tryz.prog ops Q rest (a.put op.dst undef) w') : wpList Tryz.prog ops Q (op :: rest) a w := by
  have hc : w.cell? ⟨b, i, none⟩ = some (.int .i64 (f i)) := by
    have := Blk.rangeRw hb (iF_ok N f) hi 0 (.int .i64 (f i)) rfl
    rwa [Nat.mul_one, Nat.add_zero] at this
  have hz : w.frozen? ⟨b, i, none⟩ = false := Blk.frozen hb i
  have hr : (Instr.storeAt 3 (.pointer (some ⟨b, i, none⟩)) (.int .i64 X)).run Tryz.prog w = .ok () (w.setCell ⟨b, i, none⟩ (.int .i64 X)) := by
    obtain ⟨ii, hi1, hi2, hi3, hi4⟩ := intRowS
    simp [go_sem, hc, hz, hi1, hi3]
  refine wpList_plain hgd fun K hK => ?_
  unfold Oper.wp execOp
  simp only [ho, hx, hy, Sem.run_bind, hr, Sem.run_pure, Result.andThen_ok]
  exact hK _ _ (h _ (ib_set hb hi X) ((Chg.refl w [b]).setIn (by simp) i _))
theorem make_ib {w : World} {ops : Array Oper} {rest : List Oper} {op : Oper} {a : Act} {Q : Exit → Act → World → Prop} (hgd : op.guard = none) (x y : Operand) (ho : op.op = .makeSlice 26 x y) (r : Nat) (hr : r ≤ 4398046511104) (hx : a.eval x = .int .i64 (r : Int)) (hy : a.eval y = .int .i64 (r : Int))
    (h : ∀ g w', w.heap.size ≤ g → Ib w' g r (fun _ => 0) → Chg w w' [] → wpList Tryz.prog ops Q rest (a.put op.dst (.slice (some ⟨g, 0, none⟩) r r)) w') : wpList Tryz.prog ops Q (op :: rest) a w := by
  obtain ⟨i, hi, hz, h1, h2⟩ := intRowS
  have hm := run_make (P := Tryz.prog) w 26 3 i (.int .i64 0) Tryz.underlying26 hi hz .i64 .i64 (r : Int) (r : Int) (by omega) (by omega) (by rw [h2]; omega) (by omega)
  rw [h1, Int.toNat_natCast] at hm
  have hB : Ib (w.alloc (.cells (madeCells #[.int .i64 0] (r * 1)) 3)) w.heap.size r (fun _ => 0) := by
    rw [made_r #[.int .i64 0] 1 r rfl]
    exact Blk.new w _ _
  refine wpList_plain hgd fun K hK => ?_
  unfold Oper.wp execOp
  simp only [ho, hx, hy, Sem.run_bind, hm, Sem.run_pure, Result.andThen_ok]
  exact hK _ _ (h _ _ (Nat.le_refl _) hB ((Chg.refl w []).alloc _))
set_option maxHeartbeats 8000000 in
set_option maxRecDepth 100000 in
theorem idsOf_s (v : Value) (N : Nat) (d y : Nat → Int) (hN : N ≤ 1000000) (w : World) (hL : Hl w v N d y) :
    Calls Tryz.prog 25 #[v] w fun e w' => ∃ g, w.heap.size ≤ g ∧ e = .returned (.slice (some ⟨g, 0, none⟩) N N) ∧ Ib w' g N d ∧ Chg w w' [] := by
  obtain ⟨p, cp, rfl, hp⟩ := hL.1.form
  have HP : Hid (∀ i, i < N → ∃ g o, p = some ⟨g, o, none⟩ ∧ g < w.heap.size ∧ w.rangeAt g (o + i * 33) (hF d y i)) := hp
  have HN : Hid (N ≤ 1000000) := hN
  clear hp hL hN
  go_enter Tryz.func25, Tryz.ntmps25
  go_wp2_with (refine make_ib rfl _ _ rfl N (by have := HN.out; omega) rfl rfl ?_; intro g w1 hg I0 C)
  have HG : Hid (w.heap.size ≤ g) := hg
  have I1 : Ib w1 g N (fun j => if j < 0 then d j else 0) := I0.congr (fun j _ => (if_neg (by omega)).symm)
  clear I0 hg
  go_loopw [11] (fun t wr => ∃ i : Nat, i ≤ N ∧ t = .int .i64 (i : Int) ∧ Ib wr g N (fun j => if j < i then d j else 0) ∧ Chg w wr []) (fun t _ => (N - intOf t).toNat)
  case atStart => exact ⟨0, Nat.zero_le _, rfl, I1, C⟩
  case round =>
    clear I1 C
    obtain ⟨i, hi, rfl, I, C⟩ := hrel
    by_cases h : i < N
    · have hI : (i : Int) < (N : Int) := by omega
      have hI0 : (0 : Int) ≤ (i : Int) := by omega
      have e1 : IntKind.i64.wrap ((i : Int) + 1) = (i : Int) + 1 := by have := HN.out; rw [IntKind.wrap_i64]; omega
      have HMs : Hid _ := mN N i h
      have HI : Hid (i < N) := h
      obtain ⟨gp, o, rfl, hg, hF⟩ := HP.out i h
      have hF' : wr.rangeAt gp (o + i * 33) (.int .i64 (d i) :: feL (y i)) := rangeAt_chg hF hg C (by simp)
      have HCz : Hid (w.heap.size ≤ wr.heap.size) := C.size
      have HGl : Hid (g < wr.heap.size) := I.lt
      clear hF hg h hi
      go_wp2_with (first
        | (refine load_sh rfl _ rfl gp (o + i * 33) (d i) (y i) rfl hF' ?_)
        | (refine alloc_w rfl 28 rfl (.agg zSh) zeroSh zSh rfl ?_; intro sb w1 hsb B0 k1)
        | (refine store_w B0 rfl 28 _ _ (shC (d i) (y i)) rfl rfl rfl shInfo rfl (shC_one _ _) ?_; intro wq Bs k2; have S1 := sh_id Bs)
        | (refine store_ib rfl (.tmp 20) (.tmp 19) rfl g N i _ (d i) rfl rfl ((I.chg k1 (by simp)).chg k2 (by have := HGl.out; simp; omega)) HI.out ?_; intro w4 I4 k4))
      replace C := ((C.trans1 k1).new k2 (by have := HCz.out; omega)).new k4 HG.out
      clear k1 k2 B0 hsb hF' I Bs S1 k4
      go_roundw
      case rel => exact ⟨i + 1, HI.out, by go_num, I4.congr (fun j _ => upS_step d i j), C⟩
      case measure => exact HMs.out
    · obtain rfl : i = N := by omega
      have hI : ¬ (i : Int) < (i : Int) := by omega
      go_wp2_with fail
      go_ret
      exact ⟨g, HG.out, rfl, I.congr (fun j hj => if_pos hj), C⟩
/-! ### Lists of scalars of the call's own -/
def oS (l : List Int) : Nat → List Value := fun j => feL (l.getD j 0)
theorem oS_ok (n : Nat) (l : List Int) : Rok 32 n (oS l) := fun i _ => fe_ok _
def Os (w : World) (base : Nat) (v : Value) (l : List Int) : Prop := OwnR w base 24 32 v l.length (oS l)
theorem Os.chg {w w' : World} {base : Nat} {v : Value} {l : List Int} (h : Os w base v l) (hc : Chg w w' []) : Os w' base v l := OwnR.chg h hc (fun _ _ => by simp)
theorem wp_bslice_w {P : Program} {w : World} {op : Oper} {a : Act} {K : Act → World → Prop} {Q : Exit → Act → World → Prop} (t e : TypeId) (x : Operand) (ho : op.op = .buildSlice t 1 #[(0, x)]) (v : Value) (hx : a.eval x = v) (cells : Array Value) (ie : TypeInfo) (z : Value)
    (hu : P.underlying t = some (.slice e)) (hie : P.info? e = some ie) (hz : ie.zero = some z) (s : Nat) (hs : ie.size = s) (h0 : 0 < s) (h1 : s ≤ 1000)
    (hf : Instr.fill (fun i => some (i * s, s)) ((Array.range (1 * s)).map (z.cells[· % z.cells.size]!)) [(0, v)] = some cells)
    (h : ∀ g w', w.heap.size ≤ g → Blk w' g cells e → Chg w w' [] → K (a.put op.dst (.slice (some ⟨g, 0, none⟩) 1 1)) w') : op.wp P a w K Q := by
  subst hs hx
  exact wp_buildSlice t e 1 _ ho cells ie z hu hie hz (by omega) (by omega) (by simpa using hf) (h _ _ (Nat.le_refl _) (Blk.new w _ _) ((Chg.refl w []).alloc _))
theorem wp_append_os {w : World} {o : Oper} {a : Act} {K : Act → World → Prop} {Q : Exit → Act → World → Prop} (so xo : Operand)
    (ho : o.op = .call { callee := .builtin .append, args := #[so, xo], argTypes := #[29, 29] })
    (base : Nat) (v : Value) (gx : Nat) (l : List Int) (x : Int) (hs : a.eval so = v) (hxe : a.eval xo = .slice (some ⟨gx, 0, none⟩) 1 1) (hown : Os w base v l) (hx : Blk w gx (feC x) 24) (hl : l.length ≤ 2000000) (hbase : base ≤ w.heap.size)
    (h : ∀ v' w', Os w' base v' (l ++ [x]) → Chg w w' (ob v) → K (a.put o.dst v') w') : o.wp Tryz.prog a w K Q := by
  obtain ⟨ii, hi, hz, h1, h2⟩ := scRowL
  have hR : Rl w 32 (.slice (some ⟨gx, 0, none⟩) 1 1) 1 (oS [x]) := ⟨oS_ok 1 [x], Or.inr ⟨gx, 0, 1, rfl, Nat.le_refl _, by omega, hx.lt, fun i hi => by
    obtain rfl : i = 0 := by omega
    exact (sb_one hx).range (i := 0) (by omega)⟩⟩
  refine wp_append_r so xo 29 ho 24 ii (.agg z32) 32 32 Tryz.underlying29 hi hz h1 h2 rfl (by omega) base v _ l.length 1 (oS l) (oS [x]) hs hxe hown hR (by omega) (by omega) (by omega) hbase ?_
  intro g cap w' O k _ _
  refine h _ w' ?_ k
  unfold Os
  rw [List.length_append]
  refine O.congr fun j hj => ?_
  unfold catR oS
  by_cases h : j < l.length
  · rw [if_pos h]; simp [List.getD_eq_getElem?_getD, List.getElem?_append_left h]
  · rw [if_neg h]; simp [List.getD_eq_getElem?_getD, List.getElem?_append_right (show l.length ≤ j by omega)]
theorem Os.ls {w : World} {base : Nat} {v : Value} {l : List Int} (h : Os w base v l) (hl : ∀ j, j < l.length → R256 (l.getD j 0)) : Ls w v l.length (fun j => (l.getD j 0).toNat) := by
  obtain ⟨hF, h2⟩ := OwnR.rl h
  refine ⟨fun i hi => by have := hl i hi; unfold R256 at this; show (l.getD i 0).toNat < _; omega, ?_⟩
  rcases h2 with h2 | ⟨g, o, cap, e, h1, h2, h3, h4⟩
  · exact Or.inl h2
  · refine Or.inr ⟨g, o, cap, e, h1, h2, h3, fun i hi => ?_⟩
    have := h4 i hi
    show Fc w g (o + i * 32) (((l.getD i 0).toNat : Nat) : Int)
    rw [Int.toNat_of_nonneg (hl i hi).1]
    exact fc_of this h3
/-- make of an empty list with room. -/
theorem make_os {w : World} {ops : Array Oper} {rest : List Oper} {op : Oper} {a : Act} {Q : Exit → Act → World → Prop} (hgd : op.guard = none) (x y : Operand) (ho : op.op = .makeSlice 29 x y) (r : Nat) (hr : r ≤ 1000000) (h0 : 0 < r) (hx : a.eval x = .int .i64 0) (hy : a.eval y = .int .i64 (r : Int))
    (h : ∀ v w', Os w' w.heap.size v [] → Chg w w' [] → wpList Tryz.prog ops Q rest (a.put op.dst v) w') : wpList Tryz.prog ops Q (op :: rest) a w := by
  obtain ⟨i, hi, hz, h1, h2⟩ := scRowL
  have hm := run_make (P := Tryz.prog) w 29 24 i (.agg z32) Tryz.underlying29 hi hz .i64 .i64 0 (r : Int) (by omega) (by omega) (by rw [h2]; omega) (by omega)
  rw [h1, Int.toNat_natCast] at hm
  refine wpList_plain hgd fun K hK => ?_
  unfold Oper.wp execOp
  simp only [ho, hx, hy, Sem.run_bind, hm, Sem.run_pure, Result.andThen_ok]
  refine hK _ _ (h _ _ ⟨⟨?_, Or.inr ⟨w.heap.size, r, madeCells z32 (r * 32), rfl, Nat.le_refl _, Blk.new w _ _, ?_, ?_, ?_, ?_⟩⟩, oS_ok _ _⟩ ((Chg.refl w []).alloc _))
  · rw [rL_len]
  · simp
  · unfold maxLen; omega
  · simp [madeCells]
  · simp [rL]
/-- The distances of x from the places of all identifiers but one. -/
def dsL (x : Int) (d : Nat → Int) (but : Int) : Nat → List Int
  | 0 => []
  | k + 1 => if d k = but then dsL x d but k else dsL x d but k ++ [sb x (d k)]
theorem dsL_len (x : Int) (d : Nat → Int) (but : Int) : ∀ k, (dsL x d but k).length ≤ k
  | 0 => Nat.le_refl _
  | k + 1 => by
    have := dsL_len x d but k
    unfold dsL
    by_cases h : d k = but
    · rw [if_pos h]; omega
    · rw [if_neg h, List.length_append]; simp; omega
theorem dsL_r (x : Int) (d : Nat → Int) (but : Int) : ∀ k, ∀ v ∈ dsL x d but k, R256 v
  | 0 => fun v hv => by cases hv
  | k + 1 => fun v hv => by
    unfold dsL at hv
    by_cases h : d k = but
    · rw [if_pos h] at hv; exact dsL_r x d but k v hv
    · rw [if_neg h] at hv
      rcases List.mem_append.1 hv with h2 | h2
      · exact dsL_r x d but k v h2
      · simp at h2; subst h2; exact r256_mod _
set_option maxHeartbeats 16000000 in
set_option maxRecDepth 100000 in
theorem distances_s (u : Value) (N : Nat) (d : Nat → Int) (h0 : 0 < N) (hN : N ≤ 255) (hd : ∀ i, i < N → 1 ≤ d i ∧ d i ≤ 255) (x : Int) (rx : R256 x) (but : Int) (w : World) (hL : Il w u N d) :
    Calls Tryz.prog 34 #[fe x, u, .int .i64 but] w fun e w' => ∃ r, e = .returned r ∧ Os w' w.heap.size r (dsL x d but N) ∧ Chg w w' [] := by
  obtain ⟨p, cp, rfl, hp⟩ := hL.form
  have HP : Hid (∀ i, i < N → ∃ g o, p = some ⟨g, o, none⟩ ∧ g < w.heap.size ∧ w.cell? ⟨g, o + i, none⟩ = some (.int .i64 (d i))) := hp
  have HN : Hid (0 < N ∧ N ≤ 255) := ⟨h0, hN⟩
  have HD : Hid (∀ i, i < N → 1 ≤ d i ∧ d i ≤ 255) := hd
  have HRx : Hid (R256 x) := rx
  clear hp hL h0 hN hd rx
  obtain ⟨ie, hie, hiz, his, _⟩ := scRowL
  go_enter Tryz.func34, Tryz.ntmps34
  go_wp2_with (first
    | (refine box_w rfl 24 _ rfl (feC x) rfl ?_; intro xb w1 hxb Bx k1)
    | (refine make_os rfl _ _ rfl N (by have := HN.out; omega) HN.out.1 rfl rfl ?_; intro v2 w2 O0 k2))
  obtain ⟨b1, hb1⟩ : ∃ b, w1.heap.size = b := ⟨_, rfl⟩
  rw [hb1] at O0
  have HB1 : Hid (w.heap.size ≤ b1) := by have := k1.size; show w.heap.size ≤ b1; omega
  have HXB : Hid (xb < b1) := by have := Bx.lt; show xb < b1; omega
  have HW2 : Hid (b1 ≤ w2.heap.size) := by have := k2.size; show b1 ≤ w2.heap.size; omega
  have C : Chg w w2 [] := ((Chg.refl w []).trans1 k1).trans1 k2
  replace Bx := Bx.chg k2 (by simp)
  clear k1 k2 hxb hb1
  have HO0 : Hid (Os w2 b1 v2 (dsL x d but 0)) := O0
  go_loopw [7, 15] (fun o t wr => ∃ i : Nat, i ≤ N ∧ t = .int .i64 (i : Int) ∧ Os wr b1 o (dsL x d but i) ∧ Blk wr xb (feC x) 24 ∧ Chg w wr [] ∧ b1 ≤ wr.heap.size) (fun _ t _ => (N - intOf t).toNat)
  case atStart => exact ⟨0, Nat.zero_le _, rfl, HO0.out, Bx, C, HW2.out⟩
  case round =>
    clear O0 HO0 Bx C HW2
    obtain ⟨i, hi, rfl, O, Bx, C, hws⟩ := hrel
    by_cases h : i < N
    · have hI : (i : Int) < (N : Int) := by omega
      have hI0 : (0 : Int) ≤ (i : Int) := by omega
      have e1 : IntKind.i64.wrap ((i : Int) + 1) = (i : Int) + 1 := by have := HN.out; rw [IntKind.wrap_i64]; omega
      have HMs : Hid _ := mN N i h
      have HI : Hid (i < N) := h
      have HPl : Hid (0 ≤ d i ∧ d i < 9223372036854775808) := by have := HD.out i h; show 0 ≤ d i ∧ d i < 9223372036854775808; omega
      have HX : Hid (R256 (d i)) := by have := HD.out i h; show R256 (d i); unfold R256; omega
      have HLn : Hid ((dsL x d but i).length ≤ i) := dsL_len x d but i
      have HOB : Hid (∀ k ∈ ob u7, w.heap.size ≤ k) := fun k hk => by have := (ob_own O k hk).1; have := HB1.out; omega
      have HXO : Hid (¬ xb ∈ ob u7) := fun hx => by have := (ob_own O xb hx).1; have := HXB.out; omega
      have HCz : Hid (b1 ≤ wr.heap.size) := hws
      obtain ⟨gp, o, rfl, hg, hF⟩ := HP.out i h
      have hF' := cell_chg hF hg C (by simp)
      clear hF hg h hi hws
      by_cases hbt : d i = but
      · have HS2 : Hid (dsL x d but (i + 1) = dsL x d but i) := by show dsL x d but (i + 1) = dsL x d but i; unfold dsL; rw [if_pos hbt]; cases i <;> rfl
        go_wp2_with fail
        go_roundw
        case rel => exact ⟨i + 1, HI.out, by go_num, by rw [HS2.out]; exact O, Bx, C, HCz.out⟩
        case measure => exact HMs.out
      · have HS2 : Hid (dsL x d but (i + 1) = dsL x d but i ++ [sb x (d i)]) := by show dsL x d but (i + 1) = _; conv => lhs; unfold dsL; rw [if_neg hbt]
        go_wp2_with fail
        refine wp_region_held_drew (S := fun w' => Chg wr w' (ob u7)) (by kernel_rfl) ((Chg.refl wr _).drew) (fun hHeld => ?_)
        refine take_val (v := ?_) 0 (some 22) rfl (by kernel_rfl) (by kernel_rfl) (by kernel_rfl) (fun _ _ _ h => h) rfl rfl (fun w hSw => ?_) hHeld ?_
        rotate_left
        · (go_simp; try with_reducible rfl)
        try simp only [Act.put, List.setIfInBounds_toArray, List.set_cons_zero, List.set_cons_succ]
        refine take_load 1 (some 23) (feC x) rfl (by kernel_rfl) (by kernel_rfl) (by kernel_rfl) (fun _ _ _ h => h) rfl rfl 24 _ rfl xb rfl 24 _ (fun w h => Bx.chg h HXO.out) Tryz.underlying24 rfl (by first | exact feInfo | kernel_rfl) hHeld ?_
        try simp only [Act.put, List.setIfInBounds_toArray, List.set_cons_zero, List.set_cons_succ]
        refine take_val (v := ?_) 2 (some 24) rfl (by kernel_rfl) (by kernel_rfl) (by kernel_rfl) (fun _ _ _ h => h) rfl rfl (fun w hSw => ?_) hHeld ?_
        rotate_left
        · (go_simp; try with_reducible rfl)
        try simp only [Act.put, List.setIfInBounds_toArray, List.set_cons_zero, List.set_cons_succ]
        refine wpAnyH_ready (rs := [3]) (by kernel_rfl) (by simp) ?_
        refine AllReadyH.cons (o := _) rfl (fun K hK => ?_) ?_
        ·
          go_simp
          refine (place_s (d i) HPl.out _).mono ?_
          rintro e w3 ⟨rfl, k3⟩
          go_wp2_with fail
          refine hK.out _ _ (hHeld.trans1 k3.wide) (fun hHeld => ?_)
          clear hK K
          try simp only [Act.put, List.setIfInBounds_toArray, List.set_cons_zero, List.set_cons_succ]
          have C3 : Chg wr w3 [] := (Chg.refl wr []).drew.trans1 k3
          clear k3
          refine wpAnyH_ready (rs := [4]) (by kernel_rfl) (by simp) ?_
          refine AllReadyH.cons (o := _) rfl (fun K hK => ?_) ?_
          ·
            go_simp
            refine (Sub_o x (d i) HRx.out HX.out _).mono ?_
            rintro e w4 ⟨rfl, k4⟩
            go_wp2_with fail
            refine hK.out _ _ (hHeld.trans1 k4.wide) (fun hHeld => ?_)
            clear hK K
            try simp only [Act.put, List.setIfInBounds_toArray, List.set_cons_zero, List.set_cons_succ]
            replace C3 := C3.trans1 k4
            clear k4
            refine wpAnyH_ready (rs := [5]) (by kernel_rfl) (by simp) ?_
            refine AllReadyH.cons (o := _) rfl (fun K hK => ?_) ?_
            ·
              rw [if_pos (by rfl)]
              refine wp_bslice_w 29 24 (.tmp 26) rfl (fe (sb x (d i))) rfl (feC (sb x (d i))) ie (.agg z32) Tryz.underlying29 hie hiz 32 his (by omega) (by omega) (fill_sc _) ?_
              intro gx w5 hgx Bg k5
              change K (Act.put _ (some 27) _) _
              refine hK.out _ _ (hHeld.trans1 k5.wide) (fun hHeld => ?_)
              clear hK K
              try simp only [Act.put, List.setIfInBounds_toArray, List.set_cons_zero, List.set_cons_succ]
              refine wpAnyH_ready (rs := [6]) (by kernel_rfl) (by simp) ?_
              refine AllReadyH.cons (o := _) rfl (fun K hK => ?_) ?_
              ·
                rw [if_pos (by rfl)]
                refine wp_append_os (.tmp 22) (.tmp 27) rfl b1 u7 gx (dsL x d but i) (sb x (d i)) rfl rfl ((O.chg C3).chg k5) Bg (by have := HLn.out; have := HN.out; have := HI.out; omega) (by have := HCz.out; have := C3.size; have := k5.size; omega) ?_
                intro v7 w7 O7 k7
                change K (Act.put _ (some 28) _) _
                refine hK.out _ _ (hHeld.trans1 k7) (fun hHeld => ?_)
                clear hK K
                try simp only [Act.put, List.setIfInBounds_toArray, List.set_cons_zero, List.set_cons_succ]
                refine take_val (v := ?_) 7 (some 7) rfl (by kernel_rfl) (by kernel_rfl) (by kernel_rfl) (fun _ _ _ h => h) rfl rfl (fun w hSw => ?_) hHeld ?_
                rotate_left
                · (go_simp; try with_reducible rfl)
                try simp only [Act.put, List.setIfInBounds_toArray, List.set_cons_zero, List.set_cons_succ]
                refine wpAnyH_done (by kernel_rfl) ?_ _
                have C7 : Chg w w7 [] := ((C.trans1 C3).trans1 k5).trans k7 (fun i hi => Or.inr (HOB.out i hi))
                replace Bx := Bx.chg hHeld HXO.out
                have HWS : Hid (wr.heap.size ≤ w7.heap.size) := hHeld.size
                clear k7 k5 C3 hHeld hgx Bg O C
                go_wp2_with fail
                go_roundw
                case rel => exact ⟨i + 1, HI.out, by go_num, by rw [HS2.out]; exact O7, Bx, C7, by have := HCz.out; have := HWS.out; omega⟩
                case measure => exact HMs.out
              exact AllReadyH.nil
            exact AllReadyH.nil
          exact AllReadyH.nil
        exact AllReadyH.nil
    · obtain rfl : i = N := by omega
      have hI : ¬ (i : Int) < (i : Int) := by omega
      go_wp2_with fail
      go_ret
      exact ⟨_, rfl, ⟨ownsRow_base O.1 HB1.out, O.2⟩, C⟩
end Go.Proofs.YtledggdoehnlcaaGreat
