import Derived.Test.YtgjclegpnbjlkaaGreatDoorWDdh
set_option linter.all false
namespace Go.Proofs.YtgjclegpnbjlkaaGreatDoor
set_option maxHeartbeats 8000000
set_option maxRecDepth 100000
open Go.RowKit
def tkF (fr n at' k : Nat) (s : ByteArray) (o : FO) : FO := match o with
 | some x => some x
 | none => if n < at' + k then some (s, fr, 3) else none
def TkPf (fr : Nat) (w : World) (r : Nat) (V : Value) (n at' k : Nat) (F : Nat → Nat) (s : ByteArray) (o : FO) (e : Ending) (w' : World) : Prop :=
 ∃ v at2, e = .returned v ∧ Sl w' v k (tkB (tkF fr n at' k s o) F at') ∧ RS w' r V at2 (tkF fr n at' k s o) ∧ at2 ≤ n ∧ (tkF fr n at' k s o = none → at2 = at' + k) ∧ Chg w w' [r]
theorem take_rf (fr r n c g b at' k : Nat) (F : Nat → Nat) (s : ByteArray) (o : FO) (ho : okO o) (ha : at' ≤ n) (hn : n < c) (hn2 : c ≤ 9223372036854775807) (hk : k ≤ 140737488355331) (w : World) (h : RS w r (.slice (some ⟨g, b, none⟩) n c) at' o) (hB : Bs w g b n F) (hgr : ¬ g = r) :
   Calls Tryz.prog 62 #[.pointer (some ⟨r, 0, none⟩), .string s, .int .i64 (fr : Int), .int .i64 (k : Int)] w fun e w' => TkPf fr w r (.slice (some ⟨g, b, none⟩) n c) n at' k F s o e w' := by
 have HNO : Hid (∀ W, Calls Tryz.prog 35 #[.agg (ftC (foS o) (foA o) (foY o))] W fun e w' => e = .returned (.bool o.isNone) ∧ Chg W w' []) := fun W => None_o o ho W
 have hmk := make_yi k hk
 have HA : Hid (at' ≤ n ∧ n < c ∧ c ≤ 9223372036854775807 ∧ k ≤ 140737488355331) := ⟨ha, hn, hn2, hk⟩
 have HB : Hid (Bs w g b n F) := hB
 have HG : Hid (¬ g = r) := hgr
 have h2 := h.row
 have HR : Hid (RS w r (.slice (some ⟨g, b, none⟩) n c) at' o) := h
 obtain ⟨ss, hss⟩ : ∃ x, foS o = x := ⟨_, rfl⟩
 obtain ⟨sa, hsa⟩ : ∃ x, foA o = x := ⟨_, rfl⟩
 obtain ⟨sy, hsy⟩ : ∃ x, foY o = x := ⟨_, rfl⟩
 rw [hss, hsa, hsy] at h2 HNO
 clear ho ha hn hn2 hk hB hgr h hss hsa hsy
 go_enter Tryz.func62, Tryz.ntmps62
 go_wp2_with (refine load_pr rfl _ rfl r 2 rfl ss sa sy h2 ?_)
 refine (HNO.out w).mono ?_
 rintro e w2 ⟨rfl, k2⟩
 have R2 := HR.out.chg k2 (by simp)
 have B2 := HB.out.chg k2 (by simp)
 cases o with
 | some x =>
   go_wp2_with fail
   go_ret
   refine ⟨_, at', rfl, Or.inr ⟨w2.heap.size, 0, k, rfl, Nat.le_refl _, by have := HA.out; omega, ?_⟩, R2.chg ((Chg.refl w2 []).alloc _) (by simp), HA.out.1, fun h => (by cases h), (k2.alloc _).wide⟩
   refine ⟨(Blk.new w2 _ _).lt, fun i _ => by show 0 < 256; omega, fun i hi => ?_⟩
   rw [Nat.zero_add, (Blk.new w2 _ _).cell, yC_get _ _ _ hi]
   rfl
 | none =>
   have c0 := R2.c0
   have c1 := R2.c1
   have e1 : IntKind.i64.wrap ((n : Int) - (at' : Int)) = (n : Int) - (at' : Int) := by have := HA.out; rw [IntKind.wrap_i64]; omega
   by_cases hs : n < at' + k
   · have HT : Hid (tkF fr n at' k s none = some (s, fr, 3)) := by show (if n < at' + k then some (s, fr, 3) else none) = some (s, fr, 3); rw [if_pos hs]
     have e2 : (n : Int) - (at' : Int) < (k : Int) := by omega
     have HR2 : Hid (RS w2 r (.slice (some ⟨g, b, none⟩) n c) at' none) := R2
     clear hs R2 B2 h2
     go_wp2_with fail
     go_quiet (fail)
     have R3 := Blk.drewN HR2.out nq
     go_wp2_with (refine store_set rfl 59 _ _ rfl r 2 (ftC s fr 3).toList _ rfl rfl R3 (Nat.le_refl 5) rFltInfo (ftL_1 _ _ _) ?_; intro w4 R4 k4)
     go_ret
     have K4 : Chg w w4 [r] := ((k2.drewN nq).wide).trans k4 (fun x hx => Or.inl hx)
     rw [rr_setF] at R4
     unfold TkPf
     rw [HT.out]
     refine ⟨_, at', rfl, Or.inr ⟨w4.heap.size, 0, k, rfl, Nat.le_refl _, by have := HA.out; omega, ?_⟩, Blk.chg R4 ((Chg.refl w4 []).alloc _) (by simp), HA.out.1, fun h => (by cases h), K4.alloc _⟩
     refine ⟨(Blk.new w4 _ _).lt, fun i _ => by show 0 < 256; omega, fun i hi => ?_⟩
     rw [Nat.zero_add, (Blk.new w4 _ _).cell, yC_get _ _ _ hi]
     rfl
   · have HT : Hid (tkF fr n at' k s none = none) := by show (if n < at' + k then some (s, fr, 3) else none) = none; rw [if_neg hs]
     have e2 : ¬ (n : Int) - (at' : Int) < (k : Int) := by omega
     have HS : Hid (at' + k ≤ n) := by show at' + k ≤ n; omega
     obtain ⟨q, hq⟩ : ∃ q : Nat, at' + k = q := ⟨_, rfl⟩
     have e3 : IntKind.i64.wrap ((at' : Int) + (k : Int)) = (q : Int) := by have := HA.out; rw [IntKind.wrap_i64]; omega
     have f1 := Blk.frozen R2 1
     have HQ : Hid (at' + k = q) := hq
     have HR2 : Hid (RS w2 r (.slice (some ⟨g, b, none⟩) n c) at' none) := R2
     have HB2 : Hid (Bs w2 g b n F) := B2
     have HK2 : Hid (Chg w w2 []) := k2
     clear hs hq R2 B2 h2 k2
     go_wp2_with fail
     go_quiet (fail)
     go_wp2_with fail
     have R4 : RS ((w2.drewN nq).setCell ⟨r, 1, none⟩ (.int .i64 (q : Int))) r (.slice (some ⟨g, b, none⟩) n c) q none := ((Blk.drewN HR2.out nq).setCell 1 _).to (rr_setA _ _ _ _)
     have K4 : Chg w2 ((w2.drewN nq).setCell ⟨r, 1, none⟩ (.int .i64 (q : Int))) [r] := ((Chg.refl w2 [r]).drewN nq).setIn (by simp) 1 _
     have B4 := HB2.out.chg K4 (by simp; exact HG.out)
     have K5 : Chg w ((w2.drewN nq).setCell ⟨r, 1, none⟩ (.int .i64 (q : Int))) [r] := HK2.out.wide.trans K4 (fun x hx => Or.inl hx)
     generalize ((w2.drewN nq).setCell ⟨r, 1, none⟩ (.int .i64 (q : Int))) = W at *
     clear c0 c1 f1 K4
     have d0 := R4.c0
     have d1 := R4.c1
     have e4 : IntKind.i64.wrap ((q : Int) - (k : Int)) = (at' : Int) := by have := HA.out; have := HQ.out; rw [IntKind.wrap_i64]; omega
     have l1 : (0 : Int) ≤ (at' : Int) := by omega
     have l2 : (at' : Int) ≤ (q : Int) := by have := HQ.out; omega
     have l3 : (q : Int) ≤ (c : Int) := by have := HA.out; have := HS.out; have := HQ.out; omega
     have l4 : q - at' = k := by have := HQ.out; omega
     have l6 : ¬ c - at' = 0 := by have := HA.out; omega
     have l7 : ¬ c = at' := by have := HA.out; omega
     have l8 : (0 : Int) ≤ (q : Int) := by omega
     have HR4 : Hid (RS W r (.slice (some ⟨g, b, none⟩) n c) q none) := R4
     have HK5 : Hid (Chg w W [r]) := K5
     have HB4 : Hid (Bs W g b n F) := B4
     clear R4 K5 B4
     go_quiet (fail)
     go_wp2_with fail
     go_ret
     unfold TkPf
     rw [HT.out]
     refine ⟨_, q, rfl, Or.inr ⟨g, b + at', c - at', rfl, by have := HA.out; have := HS.out; omega, by have := HA.out; omega, ((HB4.out.chg ((Chg.refl W []).drewN _) (by simp)).sub at' k HS.out)⟩, Blk.drewN HR4.out _, by have := HS.out; have := HQ.out; omega, fun _ => HQ.out.symm, HK5.out.drewN _⟩
theorem run_append_nonecD {P : Program} {w : World} (base : Nat) (t ty e : TypeId) (i : TypeInfo) (size : Nat) (ht : P.underlying t = some (.slice e)) (hi : P.info? e = some i)
   (v : Value) (n : Nat) (xs : List Value) (hown : w.ownsRow base e size v n xs) (c : Nat) :
   (Builtin.append_ #[t, t] ty #[v, .slice none 0 c]).run P w = .ok v w := by
 rcases hown.2 with ⟨rfl, rfl⟩ | ⟨g, cap, cur, rfl, _, _, hnc, _⟩
 · simp [Builtin.append_, run_underlying ht, sizeOf, typeInfo, hi, Builtin.lenOf, Builtin.firstCells]
 · simp [Builtin.append_, run_underlying ht, sizeOf, typeInfo, hi, Builtin.lenOf, Builtin.firstCells, hnc, storeCells]
theorem append_yo {w : World} {o : Oper} {a : Act} {K : Act → World → Prop} {Q : Exit → Act → World → Prop} (s x : Operand)
   (ho : o.op = .call { callee := .builtin .append, args := #[s, x], argTypes := #[29, 29] })
   (base : Nat) (vs vx : Value) (n m : Nat) (f g : Nat → Nat) (hs : a.eval s = vs) (hx : a.eval x = vx) (hown : Own w base vs n f) (hsl : Sl w vx m g) (hnm : n + m ≤ 211106232532992) (hbase : base ≤ w.heap.size)
   (h : ∀ v' w', Own w' base v' (n + m) (cat f n g) → Chg w w' (ob vs) → K (a.put o.dst v') w') : o.wp Tryz.prog a w K Q := by
 obtain ⟨i, hi, hz, h1, h2⟩ := u8Row
 rcases hsl with ⟨rfl, rfl⟩ | ⟨gx, ox, cap, rfl, hc1, hc2, hb⟩
 · have fin : Own w base vs (n + 0) (cat f n g) := by
     refine ⟨?_, fun j hj => ?_⟩
     · have e : yL (n + 0) (cat f n g) = yL n f := by rw [← yL_cat]; simp [yL]
       rw [e]
       exact hown.1
     · unfold cat
       rw [if_pos (by omega)]
       exact hown.2 j (by omega)
   have hrun := run_append_nonecD (P := Tryz.prog) (w := w) base 29 o.type 5 i 1 Tryz.underlying29 hi vs n (yL n f) hown.1 0
   unfold Oper.wp
   simp [execOp, ho, resolve, invoke, builtin, hs, hx, hrun, Result.andThen]
   exact h vs w fin (Chg.refl w _)
 · refine wp_append_own_wide (w := w) s x 29 ho base 5 i (.int .u8 0) 1 1 Tryz.underlying29 hi hz h1 h2 rfl (by omega) vs n (yL n f) hs hown.1 ⟨gx, ox, none⟩ m cap (yL m g) hx (by rw [yL_len]; omega)
     (fun j u hj => by obtain ⟨hj1, rfl⟩ := yL_some m g j u hj; exact add_cell (hb.cell j hj1)) (yL_one m g) (by simp [maxLen]; omega) (by omega) hbase ?_
   intro v' w' h3 h4 _
   rw [yL_cat] at h3
   refine h v' w' ⟨h3, fun j hj => ?_⟩ (Chg.grown h4)
   unfold cat
   by_cases hj2 : j < n
   · rw [if_pos hj2]; exact hown.2 j hj2
   · rw [if_neg hj2]; exact hb.bd _ (by omega)
theorem bslice_o {P : Program} {w : World} {op : Oper} {a : Act} {K : Act → World → Prop} {Q : Exit → Act → World → Prop} (t e : TypeId) (x : Operand) (ho : op.op = .buildSlice t 1 #[(0, x)]) (v : Value) (hx : a.eval x = v) (cells : Array Value) (ie : TypeInfo) (z : Value)
   (hu : P.underlying t = some (.slice e)) (hie : P.info? e = some ie) (hz : ie.zero = some z) (s : Nat) (hs : ie.size = s) (h0 : 0 < s) (h1 : s ≤ 1000)
   (hf : Instr.fill (fun i => some (i * s, s)) ((Array.range (1 * s)).map (z.cells[· % z.cells.size]!)) [(0, v)] = some cells)
   (h : ∀ g w', w.heap.size ≤ g → Blk w' g cells e → Chg w w' [] → K (a.put op.dst (.slice (some ⟨g, 0, none⟩) 1 1)) w') : op.wp P a w K Q := by
 subst hs hx
 exact wp_buildSlice t e 1 _ ho cells ie z hu hie hz (by omega) (by omega) (by simpa using hf) (h _ _ (Nat.le_refl _) (Blk.new w _ _) ((Chg.refl w []).alloc _))
theorem load_gfr {ops : Array Oper} {rest : List Oper} {op : Oper} {a : Act} {w : World} {Q : Exit → Act → World → Prop} (hw : Region.wanted op (yielded ops a.tmps) = true) (x : Operand) (ho : op.op = .load 59 x) (b o : Nat) (hx : a.eval x = .pointer (some ⟨b, o, none⟩))
   (s : ByteArray) (i j : Nat) (hr : w.rangeAt b o (ftC s i j).toList) (h : wpList Tryz.prog ops Q rest (a.put op.dst (.agg (ftC s i j))) w) : wpList Tryz.prog ops Q (op :: rest) a w :=
 load_gm hw 59 x ho b o hx _ hr Tryz.underlying59 rfl (by exact rFltInfo) (by simpa using h)
theorem nm_zero (k : Nat) : nm (fun _ => 0) 0 k = 0 := by
 induction k with
 | zero => rfl
 | succ k ih => show nm (fun _ => 0) 0 k * 256 + 0 = 0; rw [ih]
theorem tkF_lt {fr n a k : Nat} {s : ByteArray} (h : n < a + k) : tkF fr n a k s none = some (s, fr, 3) := if_pos h
theorem tkF_ge {fr n a k : Nat} {s : ByteArray} (h : ¬ n < a + k) : tkF fr n a k s none = none := if_neg h
theorem slt_ne : sList.toList ≠ s0E.toList ∧ sText.toList ≠ s0E.toList := ⟨ne_s0 (List.cons_ne_nil _ _), ne_s0 (List.cons_ne_nil _ _)⟩
theorem all_le {A T : Nat} {F : Nat → Nat} {k : Nat} (h45 : T ≤ A) (h : ∀ i, i < k → prW A (T + 65 * i) (F (T + 65 * i)) = 0) : T + 65 * k ≤ A := by
 rcases Nat.eq_zero_or_pos k with rfl | hk
 · omega
 · have q := h (k - 1) (by omega)
   unfold prW at q
   by_cases hx : A < T + 65 * (k - 1) + 65
   · rw [if_pos hx] at q; omega
   · omega
theorem prO_nz {n a : Nat} {F : Nat → Nat} {s : ByteArray} (h : prW n a (F a) = 0) : prO n a F s none = none := by rw [prO_zero, if_pos h]
theorem prO_bad {n a : Nat} {F : Nat → Nat} {s : ByteArray} (h : ¬ prW n a (F a) = 0) : prO n a F s none = some (s, a, prW n a (F a)) := by rw [prO_zero, if_neg h]
end Go.Proofs.YtgjclegpnbjlkaaGreatDoor
