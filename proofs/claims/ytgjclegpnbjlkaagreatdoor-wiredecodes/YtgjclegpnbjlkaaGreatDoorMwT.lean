/- Joined: WW, W1, W2. -/
import Derived.Test.YtgjclegpnbjlkaaGreatDoorMwA
import Derived.Great.BuildSlice
import Derived.Test.YtgjclegpnbjlkaaGreatDoorMwQ
import Derived.Laws.Cover3
set_option linter.all false
namespace Go.Proofs.YtgjclegpnbjlkaaGreatDoor
open Go.RowKit
theorem wp_alloc_w {P : Program} {w : World} {op : Oper} {a : Act} {K : Act → World → Prop} {Q : Exit → Act → World → Prop} (ty : TypeId) (ho : op.op = .alloc ty) (z : Value) (hz : (P.info? ty).bind (·.zero) = some z) (cs : Array Value) (hc : z.cells = cs)
   (h : ∀ g w', w.heap.size ≤ g → Blk w' g cs ty → Chg w w' [] → K (a.put op.dst (.pointer (some ⟨g, 0, none⟩))) w') : op.wp P a w K Q := by
 subst hc
 cases hi : P.info? ty with
 | none => rw [hi] at hz; cases hz
 | some i =>
   rw [hi] at hz
   replace hz : i.zero = some z := hz
   have hr : (Instr.alloc ty true (.tuple #[])).run P w = .ok (.pointer (some ⟨w.heap.size, 0, none⟩)) (w.alloc (.cells z.cells ty)) := by simp [Instr.alloc, zeroValue, typeInfo, hi, hz, newVar, newRow]
   unfold Oper.wp execOp
   simp only [ho, Sem.run_bind, hr, Sem.run_pure, Result.andThen_ok]
   exact h _ _ (Nat.le_refl _) (Blk.new w _ _) ((Chg.refl w []).alloc _)
theorem alloc_w {P : Program} {w : World} {ops : Array Oper} {rest : List Oper} {op : Oper} {a : Act} {Q : Exit → Act → World → Prop} (hgd : op.guard = none) (ty : TypeId) (ho : op.op = .alloc ty) (z : Value) (hz : (P.info? ty).bind (·.zero) = some z) (cs : Array Value) (hc : z.cells = cs)
   (h : ∀ g w', w.heap.size ≤ g → Blk w' g cs ty → Chg w w' [] → wpList P ops Q rest (a.put op.dst (.pointer (some ⟨g, 0, none⟩))) w') : wpList P ops Q (op :: rest) a w :=
 wpList_plain hgd fun _ hK => wp_alloc_w ty ho z hz cs hc fun g w' q1 q2 q3 => hK _ _ (h g w' q1 q2 q3)
theorem box_w {P : Program} {w : World} {ops : Array Oper} {rest : List Oper} {op : Oper} {a : Act} {Q : Exit → Act → World → Prop} (hgd : op.guard = none) (ty : TypeId) (x : Operand) (ho : op.op = .box ty x) (cs : Array Value) (hx : (a.eval x).cells = cs)
   (h : ∀ g w', w.heap.size ≤ g → Blk w' g cs ty → Chg w w' [] → wpList P ops Q rest (a.put op.dst (.pointer (some ⟨g, 0, none⟩))) w') : wpList P ops Q (op :: rest) a w := by
 subst hx
 refine wpList_plain hgd fun K hK => ?_
 unfold Oper.wp execOp
 simp only [ho, Sem.run_bind, Instr.box, newVar, newRow, run_newObj_alloc, Sem.run_pure, Result.andThen_ok]
 exact hK _ _ (h _ _ (Nat.le_refl _) (Blk.new w _ _) ((Chg.refl w []).alloc _))
theorem wp_store_w {P : Program} {w : World} {op : Oper} {a : Act} {K : Act → World → Prop} {Q : Exit → Act → World → Prop} {g : Nat} {cs : Array Value} {t : TypeId} (hg : Blk w g cs t) (ty : TypeId) (x y : Operand) (cells : Array Value)
   (ho : op.op = .store ty x y) (hx : a.eval x = .pointer (some ⟨g, 0, none⟩)) (hy : a.eval y = .agg cells) (hi : (P.info? ty).map (·.size) = some cells.size) (hs : cs.size = cells.size) (h1 : cells.all (·.oneCell') = true)
   (h : ∀ w', Blk w' g cells t → Chg w w' [g] → K (a.put op.dst undef) w') : op.wp P a w K Q :=
 wp_store_row ty x y ho g cells hx hy t cs hg hi hs h1 (h _ (Blk.setRow hg _) (Chg.of (gb_setRow (gb_refl _ _) _)))
theorem store_w {P : Program} {w : World} {ops : Array Oper} {rest : List Oper} {op : Oper} {a : Act} {Q : Exit → Act → World → Prop} {g : Nat} {cs : Array Value} {t : TypeId} (hg : Blk w g cs t) (hgd : op.guard = none) (ty : TypeId) (x y : Operand) (cells : Array Value)
   (ho : op.op = .store ty x y) (hx : a.eval x = .pointer (some ⟨g, 0, none⟩)) (hy : a.eval y = .agg cells) (hi : (P.info? ty).map (·.size) = some cells.size) (hs : cs.size = cells.size) (h1 : cells.all (·.oneCell') = true)
   (h : ∀ w', Blk w' g cells t → Chg w w' [g] → wpList P ops Q rest (a.put op.dst undef) w') : wpList P ops Q (op :: rest) a w :=
 wpList_plain hgd fun _ hK => wp_store_w hg ty x y cells ho hx hy hi hs h1 fun w' q1 q2 => hK _ _ (h w' q1 q2)
theorem exec_load_m {P : Program} {op : Oper} {a : Act} (w : World) (ty : TypeId) (x : Operand) (ho : op.op = .load ty x) (b o : Nat) (hx : a.eval x = .pointer (some ⟨b, o, none⟩)) (cs : List Value) (d : TypeDesc) (hc : w.rangeAt b o cs)
   (hu : P.underlying ty = some d) (hd : d.isRow = true) (hi : (P.info? ty).map (·.size) = some cs.length) : (execOp a.eval op).run P w = .ok (.value (.agg cs.toArray)) w := by
 unfold execOp
 simp only [ho, hx, Instr.loadAt, Instr.sureAddr, Sem.run_bind, Sem.run_pure, Result.andThen_ok, run_loadVar_mid w b o ty cs d hc hu hd hi]
theorem bslice_w {P : Program} {w : World} {ops : Array Oper} {rest : List Oper} {op : Oper} {a : Act} {Q : Exit → Act → World → Prop} (hgd : op.guard = none) (t e : TypeId) (x : Operand) (ho : op.op = .buildSlice t 1 #[(0, x)]) (v : Value) (hx : a.eval x = v) (cells : Array Value) (ie : TypeInfo) (z : Value)
   (hu : P.underlying t = some (.slice e)) (hie : P.info? e = some ie) (hz : ie.zero = some z) (s : Nat) (hs : ie.size = s) (h0 : 0 < s) (h1 : s ≤ 1000)
   (hf : Instr.fill (fun i => some (i * s, s)) ((Array.range (1 * s)).map (z.cells[· % z.cells.size]!)) [(0, v)] = some cells)
   (h : ∀ g w', w.heap.size ≤ g → Blk w' g cells e → Chg w w' [] → wpList P ops Q rest (a.put op.dst (.slice (some ⟨g, 0, none⟩) 1 1)) w') : wpList P ops Q (op :: rest) a w := by
 subst hs hx
 refine wpList_buildSlice hgd t e 1 _ ho cells ie z hu hie hz (by omega) (by omega) (by simpa using hf) (h _ _ (Nat.le_refl _) (Blk.new w _ _) ((Chg.refl w []).alloc _))
def Cb (base : Nat) (w w' : World) : Prop := ∃ l, Chg w w' l ∧ ∀ k, k ∈ l → base ≤ k
theorem Cb.refl (base : Nat) (w : World) : Cb base w w := ⟨[], Chg.refl _ _, fun k hk => by simp at hk⟩
theorem Cb.of {base : Nat} {w w' : World} {l : List Nat} (h : Chg w w' l) (hl : ∀ k, k ∈ l → base ≤ k) : Cb base w w' := ⟨l, h, hl⟩
theorem Cb.none {base : Nat} {w w' : World} (h : Chg w w' []) : Cb base w w' := ⟨[], h, fun k hk => by simp at hk⟩
theorem Cb.trans {base : Nat} {a b c : World} (h : Cb base a b) (k : Cb base b c) : Cb base a c := by
 obtain ⟨l, h1, h2⟩ := h
 obtain ⟨m, k1, k2⟩ := k
 exact ⟨l ++ m, (h1.incl (fun i hi => by simp [hi])).trans1 (k1.incl (fun i hi => by simp [hi])), fun i hi => by
   rcases List.mem_append.1 hi with hi | hi
   · exact h2 i hi
   · exact k2 i hi⟩
theorem Cb.size {base : Nat} {w w' : World} (h : Cb base w w') : w.heap.size ≤ w'.heap.size := by obtain ⟨l, h1, _⟩ := h; exact h1.size
theorem Cb.low {base : Nat} {w0 w w' : World} (c : Chg w0 w []) (h : Cb base w w') (hb : w0.heap.size ≤ base) : Chg w0 w' [] := by
 obtain ⟨l, h1, h2⟩ := h
 exact c.trans h1 (fun i hi => Or.inr (Nat.le_trans hb (h2 i hi)))
theorem Blk.cb {w w' : World} {b base : Nat} {c : Array Value} {T : TypeId} (h : Blk w b c T) (hc : Cb base w w') (hb : b < base) : Blk w' b c T := by
 obtain ⟨l, h1, h2⟩ := hc
 exact h.chg h1 (fun hx => by have := h2 b hx; omega)
theorem Own.cg {w : World} {base : Nat} {v : Value} {n : Nat} {f g : Nat → Nat} (h : Own w base v n f) (e : ∀ i, i < n → f i = g i) : Own w base v n g := by
 refine ⟨?_, fun i hi => by rw [← e i hi]; exact h.2 i hi⟩
 have e2 : yL n g = yL n f := by
   unfold yL
   exact List.map_congr_left fun i hi => by rw [e i (by simpa using hi)]
 rw [e2]; exact h.1
theorem append_c {w : World} {ops : Array Oper} {rest : List Oper} {o : Oper} {a : Act} {Q : Exit → Act → World → Prop} (hgd : o.guard = none) (s x : Operand)
   (ho : o.op = .call { callee := .builtin .append, args := #[s, x], argTypes := #[29, 29] })
   (base : Nat) (vs vx : Value) (n m : Nat) (f g : Nat → Nat) (hs : a.eval s = vs) (hx : a.eval x = vx) (hown : Own w base vs n f) (hsl : Sl w vx m g) (hnm : n + m ≤ 211106232532992) (hbase : base ≤ w.heap.size)
   (h : ∀ v' w', Own w' base v' (n + m) (cat f n g) → Cb base w w' → wpList Tryz.prog ops Q rest (a.put o.dst v') w') : wpList Tryz.prog ops Q (o :: rest) a w :=
 append_y hgd s x ho base vs vx n m f g hs hx hown hsl hnm hbase fun v' w' O c => h v' w' O (Cb.of c (fun k hk => (hown.ob_ge k hk).1))
theorem Own.cb {w w' : World} {base : Nat} {v : Value} {n : Nat} {f : Nat → Nat} (h : Own w base v n f) (c : Chg w w' (ob v)) : Cb base w w' := Cb.of c (fun k hk => (h.ob_ge k hk).1)
theorem Blk.sly {w : World} {g : Nat} {n : Nat} {f : Nat → Nat} (h : Blk w g (yC n f) 5) (hf : ∀ i, i < n → f i < 256) (hn : n ≤ 9223372036854775807) : Sl w (.slice (some ⟨g, 0, none⟩) n n) n f :=
 Or.inr ⟨g, 0, n, rfl, Nat.le_refl _, hn, h.lt, hf, fun i hi => by rw [Nat.zero_add, h.cell]; unfold yC; simp [hi]⟩
end Go.Proofs.YtgjclegpnbjlkaaGreatDoor

set_option linter.all false
namespace Go.Proofs.YtgjclegpnbjlkaaGreatDoor
set_option maxHeartbeats 4000000
set_option maxRecDepth 100000
open Go.RowKit
theorem isKind_s (k : Int) (w : World) : Calls Tryz.prog 71 #[.int .i64 k] w fun e w' => e = .returned (.bool (decide (1 ≤ k ∧ k ≤ 6))) ∧ w' = w := by
 by_cases h1 : 1 ≤ k
 · by_cases h2 : k ≤ 6
   · have hd : decide (1 ≤ k ∧ k ≤ 6) = true := by simp; omega
     rw [hd]; clear hd
     go_enter Tryz.func71, Tryz.ntmps71
     go_wp2_with fail
     go_ret
     exact ⟨rfl, rfl⟩
   · have hd : decide (1 ≤ k ∧ k ≤ 6) = false := by simp; omega
     rw [hd]; clear hd
     go_enter Tryz.func71, Tryz.ntmps71
     go_wp2_with fail
     go_ret
     exact ⟨rfl, rfl⟩
 · have hd : decide (1 ≤ k ∧ k ≤ 6) = false := by simp; omega
   rw [hd]; clear hd
   go_enter Tryz.func71, Tryz.ntmps71
   go_wp2_with fail
   go_ret
   exact ⟨rfl, rfl⟩
theorem isSigner_s (k : Int) (w : World) : Calls Tryz.prog 94 #[.int .i64 k] w fun e w' => e = .returned (.bool (decide (1 ≤ k ∧ k ≤ 255))) ∧ w' = w := by
 by_cases h1 : 1 ≤ k
 · by_cases h2 : k ≤ 255
   · have hd : decide (1 ≤ k ∧ k ≤ 255) = true := by simp; omega
     rw [hd]; clear hd
     go_enter Tryz.func94, Tryz.ntmps94
     go_wp2_with fail
     go_ret
     exact ⟨rfl, rfl⟩
   · have hd : decide (1 ≤ k ∧ k ≤ 255) = false := by simp; omega
     rw [hd]; clear hd
     go_enter Tryz.func94, Tryz.ntmps94
     go_wp2_with fail
     go_ret
     exact ⟨rfl, rfl⟩
 · have hd : decide (1 ≤ k ∧ k ≤ 255) = false := by simp; omega
   rw [hd]; clear hd
   go_enter Tryz.func94, Tryz.ntmps94
   go_wp2_with fail
   go_ret
   exact ⟨rfl, rfl⟩
theorem isParty_s (k : Int) (w : World) : Calls Tryz.prog 72 #[.int .i64 k] w fun e w' => e = .returned (.bool (decide (0 ≤ k ∧ k ≤ 255))) ∧ w' = w := by
 by_cases h0 : k = 0
 · subst h0
   go_enter Tryz.func72, Tryz.ntmps72
   go_wp2_with fail
   go_ret
   exact ⟨rfl, rfl⟩
 · have hz : (k == 0) = false := by simpa using h0
   have hd : decide (0 ≤ k ∧ k ≤ 255) = decide (1 ≤ k ∧ k ≤ 255) := by
     rw [decide_eq_decide]; omega
   have q := isSigner_s k
   obtain ⟨b, hb⟩ : ∃ b, decide (1 ≤ k ∧ k ≤ 255) = b := ⟨_, rfl⟩
   rw [hd, hb]
   rw [hb] at q
   clear hd hb
   go_enter Tryz.func72, Tryz.ntmps72
   go_wp2_with fail
   refine (q _).mono ?_
   rintro e w' ⟨rfl, rfl⟩
   go_wp2_with fail
   go_ret
   exact ⟨rfl, rfl⟩
def b4 (n : Nat) : Nat → Nat := fun j => if j = 0 then n / 16777216 % 256 else if j = 1 then n / 65536 % 256 else if j = 2 then n / 256 % 256 else n % 256
theorem b4_lt (n j : Nat) : b4 n j < 256 := by unfold b4; split <;> (try split) <;> (try split) <;> omega
theorem u8_conv (x : Int) : IntKind.u8.wrap x = x % 256 := IntKind.wrap_u8' x
theorem sl_b4 (n : Nat) (hn : n < 4294967296) (w : World) : Sl (w.alloc (.cells #[.int .u8 ((n : Int) / 16777216), .int .u8 ((n : Int) / 65536 % 256), .int .u8 ((n : Int) / 256 % 256), .int .u8 ((n : Int) % 256)] 5)) (.slice (some ⟨w.heap.size, 0, none⟩) 4 4) 4 (b4 n) := by
 have e : #[Value.int .u8 ((n : Int) / 16777216), .int .u8 ((n : Int) / 65536 % 256), .int .u8 ((n : Int) / 256 % 256), .int .u8 ((n : Int) % 256)] = yC 4 (b4 n) := by
   have e0 : ((n : Int) / 16777216) = ((b4 n 0 : Nat) : Int) := by show _ = ((n / 16777216 % 256 : Nat) : Int); omega
   have e1 : ((n : Int) / 65536 % 256) = ((b4 n 1 : Nat) : Int) := by show _ = ((n / 65536 % 256 : Nat) : Int); omega
   have e2 : ((n : Int) / 256 % 256) = ((b4 n 2 : Nat) : Int) := by show _ = ((n / 256 % 256 : Nat) : Int); omega
   have e3 : ((n : Int) % 256) = ((b4 n 3 : Nat) : Int) := by show _ = ((n % 256 : Nat) : Int); omega
   rw [e0, e1, e2, e3]; rfl
 rw [e]
 exact (Blk.new w _ _).sly (fun i _ => b4_lt n i) (by omega)
theorem putLength_s (v : Value) (base m n : Nat) (f : Nat → Nat) (hn : n < 4294967296) (hm : m ≤ 1000000000) (w : World) (hO : Own w base v m f) (hb : base ≤ w.heap.size) :
   Calls Tryz.prog 31 #[v, .int .i64 (n : Int)] w fun e w' => ∃ v', e = .returned v' ∧ Own w' base v' (m + 4) (cat f m (b4 n)) ∧ Cb base w w' := by
 have HO : Hid (Own w base v m f) := hO
 have HM : Hid (m ≤ 1000000000 ∧ base ≤ w.heap.size) := ⟨hm, hb⟩
 have HS := sl_b4 n hn w
 clear hO hm hb
 go_enter Tryz.func31, Tryz.ntmps31
 go_wp2_with (with_reducible refine append_c ?_ (.tmp 5) (.tmp 17) ?_ base v _ m 4 f (b4 n) ?_ ?_ (HO.out.chg ((Chg.refl w []).alloc _) (fun _ _ => by simp)) HS ?_ ?_ ?_
              · rfl
              · rfl
              · rfl
              · rfl
              · have := HM.out; omega
              · have := HM.out; simp; omega
              intro v' w' O c)
 go_ret
 exact ⟨v', rfl, O, (Cb.none ((Chg.refl w []).alloc _)).trans c⟩
def cmC (d : Int) (h b : Nat → Nat) : Array Value := (.int .i64 d :: (yL 32 h ++ yL 32 b)).toArray
theorem cmC_size (d : Int) (h b : Nat → Nat) : (cmC d h b).size = 65 := by simp [cmC, yL]
theorem cm_id {w : World} {g : Nat} {d : Int} {h b : Nat → Nat} {T : TypeId} (B : Blk w g (cmC d h b) T) : w.cell? ⟨g, 0, none⟩ = some (.int .i64 d) := by rw [B.cell]; rfl
theorem Bs.sl {w : World} {g o n : Nat} {f : Nat → Nat} (h : Bs w g o n f) (c : Nat) (hc : n ≤ c) (hc2 : c ≤ 9223372036854775807) : Sl w (.slice (some ⟨g, o, none⟩) n c) n f := Or.inr ⟨g, o, c, rfl, hc, hc2, h⟩
end Go.Proofs.YtgjclegpnbjlkaaGreatDoor

set_option linter.all false
namespace Go.Proofs.YtgjclegpnbjlkaaGreatDoor
set_option maxHeartbeats 4000000
set_option maxRecDepth 100000
open Go.RowKit
theorem zero4 : (Tryz.prog.info? 98).bind (·.zero) = some (.agg (yC 4 (fun _ => 0))) := by kernel_rfl
theorem zeroD : (Tryz.prog.info? 143).bind (·.zero) = some (.agg (yC 64 (fun _ => 0))) := by kernel_rfl
theorem s4Info : (Tryz.prog.info? 98).map (·.size) = some 4 := by kernel_rfl
theorem dInfo : (Tryz.prog.info? 143).map (·.size) = some 64 := by kernel_rfl
theorem dig4 {w : World} {g : Nat} {f : Nat → Nat} {T : TypeId} (h : Blk w g (yC 64 f) T) : w.rangeAt g 0 (yL 4 f) := fun j v hv => by
 obtain ⟨hj, rfl⟩ := yL_some _ _ _ _ hv
 rw [Nat.zero_add, h.cell]
 unfold yC
 rw [List.getElem?_toArray, List.getElem?_map, List.getElem?_range (show j < 64 by omega)]
 rfl
theorem sumOf_s (v : Value) (m : Nat) (f : Nat → Nat) (w : World) (hG : Gl w) (hv : Sl w v m f) (hm : m < 18446744073709551616) :
   Calls Tryz.prog 32 #[v] w fun e w' => e = .returned (.agg (yC 4 (sha f m))) ∧ Chg w w' [] := by
 go_enter Tryz.func32, Tryz.ntmps32
 go_wp2_with (first
   | (with_reducible refine alloc_w rfl 98 rfl (.agg (yC 4 (fun _ => 0))) zero4 (yC 4 (fun _ => 0)) rfl ?_; intro rb w1 hrb BR k1))
 refine (Sum_s v m f w1 (hG.chg k1 (by simp) (by simp)) (hv.chg k1 (Off.nil v)) hm).mono ?_
 rintro e w2 ⟨rfl, k2⟩
 have BR2 := BR.chg k2 (by simp)
 have HK : Hid (w1.heap.size ≤ w2.heap.size) := k2.size
 have HRB : Hid (rb < w2.heap.size) := BR2.lt
 have hat : ∀ g w, (Instr.arrayAt 98 (.slice (some ⟨g, 0, none⟩) 4 64)).run Tryz.prog w = .ok (.pointer (some ⟨g, 0, none⟩)) w := fun g w => run_arrayAt (w := w) 98 _ 4 _ 4 64 Tryz.underlying98 (by omega)
 clear BR
 go_wp2_with (first
   | (with_reducible refine alloc_w rfl 143 rfl (.agg (yC 64 (fun _ => 0))) zeroD (yC 64 (fun _ => 0)) rfl ?_; intro db w3 hdb BD k3)
   | (refine store_w BD rfl 143 _ _ (yC 64 (sha f m)) rfl rfl rfl dInfo rfl (yC_one 64 _) ?_; intro w4 BD4 k4; have hr := dig4 BD4; have BR4 := (BR2.chg k3 (by simp)).chg k4 (by have := HRB.out; simp; omega))
   | (refine wpList_load_mid rfl 98 _ rfl db 0 rfl (yL 4 (sha f m)) _ hr Tryz.underlying98 rfl (by rw [yL_len]; exact s4Info) ?_)
   | (refine store_w BR4 rfl 98 _ _ (yC 4 (sha f m)) rfl rfl rfl s4Info rfl (yC_one 4 _) ?_; intro w5 BR5 k5))
 have C : Chg w w5 [] := ((((k1.trans1 k2).trans1 k3).new k4 (by have := k1.size; have := HK.out; omega))).new k5 hrb
 exact bodyPost_ret (results_cell_row Tryz.results32 _ _ rb 98 (yC 4 (sha f m)) (0, 0) _ rfl BR5 Tryz.underlying98 rfl s4Info) rfl ⟨rfl, C⟩
end Go.Proofs.YtgjclegpnbjlkaaGreatDoor
