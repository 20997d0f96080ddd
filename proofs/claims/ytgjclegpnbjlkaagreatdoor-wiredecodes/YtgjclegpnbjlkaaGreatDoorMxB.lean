/- Joined: WDp, WDe. -/
import Derived.Test.YtgjclegpnbjlkaaGreatDoorMxA
set_option linter.all false
namespace Go.Proofs.YtgjclegpnbjlkaaGreatDoor
set_option maxHeartbeats 8000000
set_option maxRecDepth 100000
open Go.RowKit
theorem results_ttcR {P : Program} {fn : Func} {p q r : Tmp} {ty : TypeId} (h : fn.results = #[.tmp p, .tmp q, .cell r ty]) (tmps : Array Value) (w : World) (g : Nat) (t : TypeId) (cs : Array Value) (d : TypeDesc) (a b : Value)
   (hp : tmps.getD p undef = a) (hq : tmps.getD q undef = b) (hr : tmps.getD r undef = .pointer (some ⟨g, 0, none⟩)) (hg : w.heap[g]? = some (.cells cs t (0, 0)))
   (hu : P.underlying ty = some d) (hd : (match d with | .struct _ | .array _ _ => true | _ => false) = true) (hi : (P.info? ty).map (·.size) = some cs.size) :
   (results fn tmps).run P w = .ok (.tuple #[a, b, .agg cs]) w := by
 have hp' : tmps[p]?.getD undef = a := by simpa using hp
 have hq' : tmps[q]?.getD undef = b := by simpa using hq
 have hr' : tmps[r]?.getD undef = .pointer (some ⟨g, 0, none⟩) := by simpa using hr
 simp [results, h, hp', hq', hr', asAddr, run_loadVar_row w g t ty cs (0, 0) d hg hu hd hi]
theorem nm_sh (F : Nat → Nat) (a : Nat) : ∀ k, nm (fun j => F (a + j)) 0 k = nm F a k
 | 0 => rfl
 | k + 1 => by
   show nm (fun j => F (a + j)) 0 k * 256 + F (a + (0 + k)) = nm F a k * 256 + F (a + k)
   rw [nm_sh F a k, Nat.zero_add]
theorem builtRFz : Tryz.prog.built 59 [] = some (ftC s0E 0 0) := by kernel_rfl
theorem mg_cells : #[Value.int .u8 82, .int .u8 73, .int .u8 77, .int .u8 69] = yC 4 mgN := by rfl
theorem conv_wP {w : World} {ops : Array Oper} {rest : List Oper} {o : Oper} {a : Act} {Q : Exit → Act → World → Prop} (hgd : o.guard = none) (x : Operand) (ho : o.op = .convert 29 29 x) (g n c : Nat) (hx : a.eval x = .slice (some ⟨g, 0, none⟩) n c) (N : Nat) (f : Nat → Nat) (hg : Blk w g (yC N f) 5)
   (h : ∀ w', (∀ i, w'.cell? ⟨g, i, none⟩ = w.cell? ⟨g, i, none⟩) → g < w'.heap.size → Chg w w' [g] → wpList Tryz.prog ops Q rest (a.put o.dst (.slice (some ⟨g, 0, none⟩) n c)) w') : wpList Tryz.prog ops Q (o :: rest) a w := by
 refine wpList_plain hgd fun K hK => ?_
 have hb : w.heap[g]? = some (.cells (yC N f) 5 (0, 0)) := hg
 have hsh : w.shape? g = some (5, (yC N f).size) := by
   unfold World.shape?
   rw [hb]
 have hrun : (convert 29 29 (.slice (some ⟨g, 0, none⟩) n c)).run Tryz.prog w = .ok (.slice (some ⟨g, 0, none⟩) n c) (w.freeze ⟨g, (yC N f).size, none⟩ 1) := by
   simp [convert, run_underlying Tryz.underlying29, run_underlying Tryz.underlying5, markStringish, hsh]
 have hlt : g < w.heap.size := hg.lt
 unfold Oper.wp execOp
 simp only [ho, hx, Sem.run_bind, hrun, Sem.run_pure, Result.andThen_ok]
 refine hK _ _ (h _ (fun i => ?_) ?_ ?_)
 · unfold World.freeze
   rw [if_neg (by decide)]
   simp [World.cell?, Array.getElem?_modify, hb]
 · unfold World.freeze
   rw [if_neg (by decide)]
   simpa using hlt
 · unfold World.freeze
   rw [if_neg (by decide)]
   refine ⟨rfl, rfl, rfl, by simp, fun k hk hl => ?_⟩
   have hne : ¬ g = k := fun e => hl (by simp [e])
   simp [Array.getElem?_modify, hne]
theorem Blk.rowRP {w : World} {g : Nat} {s : ByteArray} {a y : Nat} {t : TypeId} (B : Blk w g (ftC s a y) t) : w.rangeAt g 0 [.string s, .int .i64 (a : Int), .int .i64 (y : Int)] := fun j v hv => by
 rw [Nat.zero_add, B.cell j, ← hv]
 unfold ftC
 simp only [List.getElem?_toArray]
def RPk (n : Nat) (F : Nat → Nat) (w : World) (e : Ending) (w' : World) : Prop :=
 ((∃ s a y, HdP n F s a y ∧ e = .returned (.tuple #[.int .i64 0, .int .i64 0, .agg (ftC s a y)])) ∨
   (HdG n F ∧ e = .returned (.tuple #[.int .i64 ((F 5 : Nat) : Int), .int .i64 ((14 + nm F 6 4 : Nat) : Int), .agg (ftC s0E 0 0)]))) ∧ Chg w w' []
theorem Peek_r (v : Value) (n : Nat) (F : Nat → Nat) (w : World) (hv : Sl w v n F) :
   Calls Tryz.prog 18 #[v] w fun e w' => RPk n F w e w' := by
 obtain ⟨p, c, rfl, hp⟩ := hv.frm
 have HP : Hid (0 < n → ∃ g o, p = some ⟨g, o, none⟩ ∧ n ≤ c ∧ c ≤ 9223372036854775807 ∧ Bs w g o n F) := hp
 have HC := mg_cells
 clear hv hp
 go_enter Tryz.func18, Tryz.ntmps18
 go_upto_region 2 with (first
   | (refine store_w B2 rfl 59 _ _ (ftC sFrame n 3) rfl rfl rfl (by exact rFltInfo) (by rfl) (ftC_one _ _ _) ?_; intro w3 T k3)
   | (have _h := R; with_reducible refine alloc_w rfl 59 rfl (.agg zRF) zeroRF2 zRF rfl ?_; intro tb w2 htb B2 k2)
   | (with_reducible refine alloc_w rfl 59 rfl (.agg zRF) zeroRF2 zRF rfl ?_; intro rb w1 hrb R k1))
 have HRB : Hid (w.heap.size ≤ rb) := hrb
 have k13 := k2.new k3 htb
 have R3 := R.chg k13 (by simp)
 have C3 := k1.trans1 k13
 clear R k1 k2 k3 k13 B2 htb hrb
 have hw3 : w.heap.size ≤ w3.heap.size := C3.size
 have MB := Blk.new w3 (yC 4 mgN) 5
 have T4 := T.alloc (.cells (yC 4 mgN) 5)
 have R4 := R3.alloc (.cells (yC 4 mgN) 5)
 have C4 := C3.alloc (.cells (yC 4 mgN) 5)
 have HMB : Hid (w.heap.size ≤ w3.heap.size) := hw3
 have HS : Hid (Blk (w3.alloc (.cells (yC 4 mgN) 5)) w3.heap.size (yC 4 mgN) 5) := MB
 clear T R3 C3 hw3
 go_upto_region 3 with (refine conv_wP rfl (.tmp 12) rfl w3.heap.size 4 4 rfl 4 mgN HS.out ?_; intro w5 SM LM k5)
 have T5 := T4.chg k5 (by simp; exact fun e => (T4.ne MB (by decide)) e)
 have R5 := R4.chg k5 (by simp; exact fun e => (R4.ne MB (by decide)) e)
 have C5 := C4.new k5 HMB.out
 obtain ⟨mb, hmb⟩ : ∃ mb, w3.heap.size = mb := ⟨_, rfl⟩
 rw [hmb] at MB SM LM ⊢
 have MC : Hid (∀ i, i < 4 → w5.cell? ⟨mb, i, none⟩ = some (.int .u8 ((mgN i : Nat) : Int))) := fun i hi => by rw [SM i, MB.cell, yC_get 4 mgN i hi]
 clear T4 R4 C4 MB SM k5 HC HMB HS hmb
 go_wp2_with fail
 go_loopw [7] (fun t wr => ∃ i : Nat, i ≤ 4 ∧ i ≤ n ∧ t = .int .i64 (i : Int) ∧ Chg w5 wr [] ∧ ∀ j, j < i → F j = mgN j) (fun t _ => (4 - intOf t).toNat)
 case atStart => exact ⟨0, by omega, by omega, rfl, Chg.refl _ _, fun j hj => by omega⟩
 case round =>
   obtain ⟨i, hi, hin, rfl, cc, hj⟩ := hrel
   have T := T5.chg cc (by simp)
   have R := R5.chg cc (by simp)
   have M : Hid (∀ i, i < 4 → wr.cell? ⟨mb, i, none⟩ = some (.int .u8 ((mgN i : Nat) : Int))) := fun i hi => (cc.cellW mb i LM (by simp)).trans (MC.out i hi)
   have C := C5.trans1 cc
   have HJ : Hid (∀ j, j < i → F j = mgN j) := hj
   have HIN : Hid (i ≤ n) := hin
   have HCC : Hid (Chg w5 wr []) := cc
   clear T5 R5 MC C5 hj cc hin
   by_cases h8 : i < 4
   · have hI : (i : Int) < 4 := by omega
     have HI : Hid (i < 4) := h8
     by_cases hin2 : i = n
     · have hI2 : (n : Int) ≤ (i : Int) := by omega
       have hI3 : ¬ (i : Int) < (n : Int) := by omega
       have HQ : Hid (i = n) := hin2
       clear hi h8 hin2 M
       go_wp2_with fail
       refine lt_begin (fun w' => Blk w' tb (ftC sFrame n 3) 59) (fun i => i == 3) (by kernel_rfl) ?_
       have hHeld : Blk wr.drew tb (ftC sFrame n 3) 59 := T.drew
       have Rd := R.drew
       have Cd := C.drew
       generalize wr.drew = z5 at *
       refine lr (.agg (ftC sFrame n 3)) 0 (some 22) rfl (fun w hSw => ?_) hHeld ?_
       · exact exec_load_m w 59 (.tmp 5) rfl tb 0 rfl [.string sFrame, .int .i64 (n : Int), .int .i64 ((3 : Nat) : Int)] _ (Blk.rowRP hSw) Tryz.underlying59 rfl (by exact rFltInfo)
       try simp only [Act.put, sA]
       refine lv (.int .i64 0) 1 (some 2) rfl (fun w => ?_) ?_; (· (go_simp; try with_reducible rfl)); try simp only [Act.put, sA]
       refine lv (.int .i64 0) 2 (some 3) rfl (fun w => ?_) ?_; (· (go_simp; try with_reducible rfl)); try simp only [Act.put, sA]
       refine lt_one 3 rfl (by kernel_rfl) rfl (fun K hK => ?_)
       refine wp_store_w Rd 59 (.tmp 4) (.tmp 22) (ftC sFrame n 3) rfl rfl rfl (by exact rFltInfo) rfl (ftC_one _ _ _) (fun z7 RF kz => ?_)
       refine hK.out _ _ (fun h => absurd h (by decide)) ?_
       clear hK K
       try simp only [Act.put, sA]
       refine lt_done (by kernel_rfl) ?_ _
       go_wp2_with fail
       exact bodyPost_ret (results_ttcR Tryz.results18 _ _ rb 59 (ftC sFrame n 3) _ _ _ rfl rfl rfl RF Tryz.underlying59 rfl (by exact rFltInfo)) rfl ⟨Or.inl ⟨sFrame, n, 3, Or.inl ⟨i, HI.out, HJ.out, Or.inl ⟨HQ.out.symm, rfl, rfl, rfl⟩⟩, rfl⟩, Cd.new kz HRB.out⟩
     · have hI2 : ¬ (n : Int) ≤ (i : Int) := by have := HIN.out; omega
       have hI3 : (i : Int) < (n : Int) := by have := HIN.out; omega
       have hI0 : (0 : Int) ≤ (i : Int) := by omega
       have e1 : IntKind.i64.wrap ((i : Int) + 1) = (i : Int) + 1 := by rw [IntKind.wrap_i64]; omega
       have HLT : Hid (i < n) := by have := HIN.out; show i < n; omega
       have HM : Hid ((4 - intOf (.int .i64 ((i : Int) + 1))).toNat < (4 - intOf (.int .i64 (i : Int))).toNat) := by show (4 - intOf (.int .i64 ((i : Int) + 1))).toNat < (4 - intOf (.int .i64 (i : Int))).toNat; simp [intOf]; omega
       obtain ⟨g, o, rfl, _, _, hB⟩ := HP.out (by have := HLT.out; omega)
       have cb := (hB.chg C (by simp)).cell i HLT.out
       have cm := M.out i h8
       obtain ⟨x, hx⟩ : ∃ x, F i = x := ⟨_, rfl⟩
       have HX : Hid (F i = x) := hx
       obtain ⟨y, hy⟩ : ∃ y, mgN i = y := ⟨_, rfl⟩
       have HY : Hid (mgN i = y) := hy
       rw [hx] at cb
       rw [hy] at cm
       clear hx hy hB hi h8 hin2
       by_cases hxy : x = y
       · subst hxy
         go_wp2_with fail
         go_quiet (fail)
         go_wp2_with fail
         exact ⟨⟨i + 1, HI.out, HLT.out, by go_num, HCC.out.drewN _, fun j hj => by
           by_cases h : j = i
           · subst h; exact HX.out.trans HY.out.symm
           · exact HJ.out j (by omega)⟩, HM.out⟩
       · have hne : ¬ (x : Int) = (y : Int) := by omega
         have HNE : Hid (F i ≠ mgN i) := by show F i ≠ mgN i; rw [HX.out, HY.out]; exact hxy
         clear hxy
         go_wp2_with fail
         go_quiet (fail)
         have R := R.drewN nq
         have C := C.drewN nq
         go_wp2_with (first
           | (refine store_w R rfl 59 _ _ (ftC sMagic i 101) rfl rfl rfl (by exact rFltInfo) rfl (ftC_one _ _ _) ?_; intro z7 RF kz))
         exact bodyPost_ret (results_ttcR Tryz.results18 _ _ rb 59 (ftC sMagic i 101) _ _ _ rfl rfl rfl RF Tryz.underlying59 rfl (by exact rFltInfo)) rfl ⟨Or.inl ⟨sMagic, i, 101, Or.inl ⟨i, HI.out, HJ.out, Or.inr ⟨HLT.out, HNE.out, rfl, rfl, rfl⟩⟩, rfl⟩, C.new kz HRB.out⟩
   · obtain rfl : i = 4 := by omega
     have hI : ¬ ((4 : Nat) : Int) < 4 := by omega
     obtain ⟨g, o, rfl, hnc, hcm, hB⟩ := HP.out (by have := HIN.out; omega)
     have B := hB.chg C (by simp)
     have HB : Hid (Bs wr g o n F) := B
     have HNC : Hid (n ≤ c ∧ c ≤ 9223372036854775807) := ⟨hnc, hcm⟩
     clear hi h8 M hB hnc hcm B
     by_cases h5 : n = 4
     · have hI5 : (n : Int) < 5 := by omega
       have H5 : Hid (n = 4) := h5
       clear h5
       go_wp2_with fail
       refine lt_begin (fun w' => Blk w' tb (ftC sFrame n 3) 59) (fun i => i == 3) (by kernel_rfl) ?_
       have hHeld : Blk wr.drew tb (ftC sFrame n 3) 59 := T.drew
       have Rd := R.drew
       have Cd := C.drew
       generalize wr.drew = z5 at *
       refine lr (.agg (ftC sFrame n 3)) 0 (some 37) rfl (fun w hSw => ?_) hHeld ?_
       · exact exec_load_m w 59 (.tmp 5) rfl tb 0 rfl [.string sFrame, .int .i64 (n : Int), .int .i64 ((3 : Nat) : Int)] _ (Blk.rowRP hSw) Tryz.underlying59 rfl (by exact rFltInfo)
       try simp only [Act.put, sA]
       refine lv (.int .i64 0) 1 (some 2) rfl (fun w => ?_) ?_; (· (go_simp; try with_reducible rfl)); try simp only [Act.put, sA]
       refine lv (.int .i64 0) 2 (some 3) rfl (fun w => ?_) ?_; (· (go_simp; try with_reducible rfl)); try simp only [Act.put, sA]
       refine lt_one 3 rfl (by kernel_rfl) rfl (fun K hK => ?_)
       refine wp_store_w Rd 59 (.tmp 4) (.tmp 37) (ftC sFrame n 3) rfl rfl rfl (by exact rFltInfo) rfl (ftC_one _ _ _) (fun z7 RF kz => ?_)
       refine hK.out _ _ (fun h => absurd h (by decide)) ?_
       clear hK K
       try simp only [Act.put, sA]
       refine lt_done (by kernel_rfl) ?_ _
       go_wp2_with fail
       exact bodyPost_ret (results_ttcR Tryz.results18 _ _ rb 59 (ftC sFrame n 3) _ _ _ rfl rfl rfl RF Tryz.underlying59 rfl (by exact rFltInfo)) rfl ⟨Or.inl ⟨sFrame, n, 3, Or.inr ⟨HJ.out, Or.inl ⟨H5.out, rfl, rfl, rfl⟩⟩, rfl⟩, Cd.new kz HRB.out⟩
     have H5 : Hid (5 ≤ n) := by have := HIN.out; show 5 ≤ n; omega
     have hI5 : ¬ (n : Int) < 5 := by have := H5.out; omega
     have hI5b : (4 : Int) < (n : Int) := by have := H5.out; omega
     have c4 := HB.out.cell 4 H5.out
     obtain ⟨x4, hx4⟩ : ∃ x, F 4 = x := ⟨_, rfl⟩
     have HX4 : Hid (F 4 = x4) := hx4
     rw [hx4] at c4
     clear hx4 h5
     by_cases h4 : x4 = 1
     rotate_left
     · have hne : ¬ (x4 : Int) = 1 := by omega
       have HNE : Hid (F 4 ≠ 1) := by show F 4 ≠ 1; rw [HX4.out]; exact h4
       clear h4
       go_wp2_with (first
         | (refine store_w R rfl 59 _ _ (ftC sVersion 4 102) rfl rfl rfl (by exact rFltInfo) rfl (ftC_one _ _ _) ?_; intro z7 RF kz))
       exact bodyPost_ret (results_ttcR Tryz.results18 _ _ rb 59 (ftC sVersion 4 102) _ _ _ rfl rfl rfl RF Tryz.underlying59 rfl (by exact rFltInfo)) rfl ⟨Or.inl ⟨sVersion, 4, 102, Or.inr ⟨HJ.out, Or.inr (Or.inl ⟨H5.out, HNE.out, rfl, rfl, rfl⟩)⟩, rfl⟩, C.new kz HRB.out⟩
     subst h4
     have HF4 : Hid (F 4 = 1) := HX4.out
     by_cases h6 : n = 5
     · have hI6 : (n : Int) < 6 := by omega
       have H6 : Hid (n = 5) := h6
       clear h6
       go_wp2_with fail
       refine lt_begin (fun w' => Blk w' tb (ftC sFrame n 3) 59) (fun i => i == 3) (by kernel_rfl) ?_
       have hHeld : Blk wr.drew tb (ftC sFrame n 3) 59 := T.drew
       have Rd := R.drew
       have Cd := C.drew
       generalize wr.drew = z5 at *
       refine lr (.agg (ftC sFrame n 3)) 0 (some 46) rfl (fun w hSw => ?_) hHeld ?_
       · exact exec_load_m w 59 (.tmp 5) rfl tb 0 rfl [.string sFrame, .int .i64 (n : Int), .int .i64 ((3 : Nat) : Int)] _ (Blk.rowRP hSw) Tryz.underlying59 rfl (by exact rFltInfo)
       try simp only [Act.put, sA]
       refine lv (.int .i64 0) 1 (some 2) rfl (fun w => ?_) ?_; (· (go_simp; try with_reducible rfl)); try simp only [Act.put, sA]
       refine lv (.int .i64 0) 2 (some 3) rfl (fun w => ?_) ?_; (· (go_simp; try with_reducible rfl)); try simp only [Act.put, sA]
       refine lt_one 3 rfl (by kernel_rfl) rfl (fun K hK => ?_)
       refine wp_store_w Rd 59 (.tmp 4) (.tmp 46) (ftC sFrame n 3) rfl rfl rfl (by exact rFltInfo) rfl (ftC_one _ _ _) (fun z7 RF kz => ?_)
       refine hK.out _ _ (fun h => absurd h (by decide)) ?_
       clear hK K
       try simp only [Act.put, sA]
       refine lt_done (by kernel_rfl) ?_ _
       go_wp2_with fail
       exact bodyPost_ret (results_ttcR Tryz.results18 _ _ rb 59 (ftC sFrame n 3) _ _ _ rfl rfl rfl RF Tryz.underlying59 rfl (by exact rFltInfo)) rfl ⟨Or.inl ⟨sFrame, n, 3, Or.inr ⟨HJ.out, Or.inr (Or.inr ⟨HF4.out, Or.inl ⟨H6.out, rfl, rfl, rfl⟩⟩)⟩, rfl⟩, Cd.new kz HRB.out⟩
     have H6 : Hid (6 ≤ n) := by have := H5.out; show 6 ≤ n; omega
     have hI6 : ¬ (n : Int) < 6 := by have := H6.out; omega
     have hI6b : (5 : Int) < (n : Int) := by have := H6.out; omega
     have c5 := HB.out.cell 5 H6.out
     have hx5b := HB.out.bd 5 H6.out
     obtain ⟨x5, hx5⟩ : ∃ x, F 5 = x := ⟨_, rfl⟩
     have HX5 : Hid (F 5 = x5) := hx5
     rw [hx5] at c5 hx5b
     clear hx5 h6
     by_cases hk : 1 ≤ x5 ∧ x5 ≤ 6
     rotate_left
     · have HK : Hid (¬ (1 ≤ F 5 ∧ F 5 ≤ 6)) := by show ¬ (1 ≤ F 5 ∧ F 5 ≤ 6); rw [HX5.out]; exact hk
       by_cases h1 : x5 < 1
       · have hI7 : (x5 : Int) < 1 := by omega
         clear hk h1 hx5b
         go_wp2_with (first
           | (refine store_w R rfl 59 _ _ (ftC sKindH 5 152) rfl rfl rfl (by exact rFltInfo) rfl (ftC_one _ _ _) ?_; intro z7 RF kz))
         exact bodyPost_ret (results_ttcR Tryz.results18 _ _ rb 59 (ftC sKindH 5 152) _ _ _ rfl rfl rfl RF Tryz.underlying59 rfl (by exact rFltInfo)) rfl ⟨Or.inl ⟨sKindH, 5, 152, Or.inr ⟨HJ.out, Or.inr (Or.inr ⟨HF4.out, Or.inr (Or.inl ⟨H6.out, HK.out, rfl, rfl, rfl⟩)⟩)⟩, rfl⟩, C.new kz HRB.out⟩
       · have hI7 : ¬ (x5 : Int) < 1 := by omega
         have hI8 : (6 : Int) < (x5 : Int) := by omega
         clear hk h1 hx5b
         go_wp2_with (first
           | (refine store_w R rfl 59 _ _ (ftC sKindH 5 152) rfl rfl rfl (by exact rFltInfo) rfl (ftC_one _ _ _) ?_; intro z7 RF kz))
         exact bodyPost_ret (results_ttcR Tryz.results18 _ _ rb 59 (ftC sKindH 5 152) _ _ _ rfl rfl rfl RF Tryz.underlying59 rfl (by exact rFltInfo)) rfl ⟨Or.inl ⟨sKindH, 5, 152, Or.inr ⟨HJ.out, Or.inr (Or.inr ⟨HF4.out, Or.inr (Or.inl ⟨H6.out, HK.out, rfl, rfl, rfl⟩)⟩)⟩, rfl⟩, C.new kz HRB.out⟩
     have hI7 : ¬ (x5 : Int) < 1 := by omega
     have hI8 : ¬ (6 : Int) < (x5 : Int) := by omega
     have e5 : IntKind.i64.wrap (x5 : Int) = (x5 : Int) := by rw [IntKind.wrap_i64]; omega
     have HK : Hid (1 ≤ F 5 ∧ F 5 ≤ 6) := by show 1 ≤ F 5 ∧ F 5 ≤ 6; rw [HX5.out]; exact hk
     clear hk hx5b
     by_cases h10 : n < 10
     · have hI9 : (n : Int) < 10 := by omega
       have H10 : Hid (n < 10) := h10
       clear h10
       go_wp2_with fail
       refine lt_begin (fun w' => Blk w' tb (ftC sFrame n 3) 59) (fun i => i == 3) (by kernel_rfl) ?_
       have hHeld : Blk wr.drew tb (ftC sFrame n 3) 59 := T.drew
       have Rd := R.drew
       have Cd := C.drew
       generalize wr.drew = z5 at *
       refine lr (.agg (ftC sFrame n 3)) 0 (some 61) rfl (fun w hSw => ?_) hHeld ?_
       · exact exec_load_m w 59 (.tmp 5) rfl tb 0 rfl [.string sFrame, .int .i64 (n : Int), .int .i64 ((3 : Nat) : Int)] _ (Blk.rowRP hSw) Tryz.underlying59 rfl (by exact rFltInfo)
       try simp only [Act.put, sA]
       refine lv (.int .i64 0) 1 (some 2) rfl (fun w => ?_) ?_; (· (go_simp; try with_reducible rfl)); try simp only [Act.put, sA]
       refine lv (.int .i64 0) 2 (some 3) rfl (fun w => ?_) ?_; (· (go_simp; try with_reducible rfl)); try simp only [Act.put, sA]
       refine lt_one 3 rfl (by kernel_rfl) rfl (fun K hK => ?_)
       refine wp_store_w Rd 59 (.tmp 4) (.tmp 61) (ftC sFrame n 3) rfl rfl rfl (by exact rFltInfo) rfl (ftC_one _ _ _) (fun z7 RF kz => ?_)
       refine hK.out _ _ (fun h => absurd h (by decide)) ?_
       clear hK K
       try simp only [Act.put, sA]
       refine lt_done (by kernel_rfl) ?_ _
       go_wp2_with fail
       exact bodyPost_ret (results_ttcR Tryz.results18 _ _ rb 59 (ftC sFrame n 3) _ _ _ rfl rfl rfl RF Tryz.underlying59 rfl (by exact rFltInfo)) rfl ⟨Or.inl ⟨sFrame, n, 3, Or.inr ⟨HJ.out, Or.inr (Or.inr ⟨HF4.out, Or.inr (Or.inr ⟨HK.out, Or.inl ⟨H6.out, H10.out, rfl, rfl, rfl⟩⟩)⟩)⟩, rfl⟩, Cd.new kz HRB.out⟩
     have H10 : Hid (10 ≤ n) := by show 10 ≤ n; omega
     have hI9 : ¬ (n : Int) < 10 := by have := H10.out; omega
     have l1 : (6 : Int) ≤ 10 := by omega
     have l2 : (10 : Int) ≤ (c : Int) := by have := HNC.out; have := H10.out; omega
     have l3 : ¬ c - 6 = 0 := by have := HNC.out; have := H10.out; omega
     have l4 : ¬ c = 6 := by have := HNC.out; have := H10.out; omega
     clear h10
     go_wp2_with fail
     refine (number_r (.slice (some ⟨g, o + 6, none⟩) 4 (c - 6)) 4 (fun j => F (6 + j)) wr (by decide) (Or.inr ⟨g, o + 6, c - 6, rfl, by have := HNC.out; have := H10.out; omega, by have := HNC.out; omega, HB.out.sub 6 4 H10.out⟩)).mono ?_
     rintro e w9 ⟨rfl, k9⟩
     rw [nm_sh]
     have R := R.chg k9 (by simp)
     have c5 := (HB.out.chg k9 (by simp)).cell 5 H6.out
     rw [HX5.out] at c5
     have C := C.trans1 k9
     have hnb := nm_lt4 F 6 4 (by decide) (fun j hj => HB.out.bd (6 + j) (by have := H10.out; omega))
     obtain ⟨N, hN⟩ : ∃ N, nm F 6 4 = N := ⟨_, rfl⟩
     have HN : Hid (nm F 6 4 = N) := hN
     rw [hN] at hnb ⊢
     clear hN k9 T l1 l2 l3 l4
     by_cases hl : 1065189 < N
     · have hI10 : (1065189 : Int) < (N : Int) := by omega
       have HL : Hid (1065189 < nm F 6 4) := by show 1065189 < nm F 6 4; rw [HN.out]; exact hl
       clear hl hnb
       go_wp2_with (first
         | (refine store_w R rfl 59 _ _ (ftC sLength 6 10) rfl rfl rfl (by exact rFltInfo) rfl (ftC_one _ _ _) ?_; intro z7 RF kz))
       exact bodyPost_ret (results_ttcR Tryz.results18 _ _ rb 59 (ftC sLength 6 10) _ _ _ rfl rfl rfl RF Tryz.underlying59 rfl (by exact rFltInfo)) rfl ⟨Or.inl ⟨sLength, 6, 10, Or.inr ⟨HJ.out, Or.inr (Or.inr ⟨HF4.out, Or.inr (Or.inr ⟨HK.out, Or.inr ⟨H10.out, HL.out, rfl, rfl, rfl⟩⟩)⟩)⟩, rfl⟩, C.new kz HRB.out⟩
     have hI10 : ¬ (1065189 : Int) < (N : Int) := by omega
     have HL : Hid (nm F 6 4 ≤ 1065189) := by show nm F 6 4 ≤ 1065189; rw [HN.out]; omega
     have e14 : IntKind.i64.wrap (14 + (N : Int)) = ((14 + N : Nat) : Int) := by rw [IntKind.wrap_i64]; omega
     clear hl hnb
     obtain ⟨Z, hZ⟩ : ∃ Z, 14 + N = Z := ⟨_, rfl⟩
     have HZ : Hid (14 + nm F 6 4 = Z) := by show 14 + nm F 6 4 = Z; rw [HN.out]; exact hZ
     rw [hZ] at e14
     clear hZ
     go_wp2_with (first
       | (refine store_w R rfl 59 _ _ (ftC s0E 0 0) rfl rfl rfl (by exact rFltInfo) rfl (ftC_one _ _ _) ?_; intro z7 RF kz)
       | (refine wpList_buildW rfl 59 _ rfl (ftC s0E 0 0) builtRFz ?_))
     exact bodyPost_ret (results_ttcR Tryz.results18 _ _ rb 59 (ftC s0E 0 0) _ _ _ rfl rfl rfl RF Tryz.underlying59 rfl (by exact rFltInfo)) rfl ⟨Or.inr ⟨⟨HJ.out, HF4.out, HK.out, H10.out, HL.out⟩, by rw [HX5.out, HZ.out]; rfl⟩, C.new kz HRB.out⟩
end Go.Proofs.YtgjclegpnbjlkaaGreatDoor

set_option linter.all false
namespace Go.Proofs.YtgjclegpnbjlkaaGreatDoor
open Go.RowKit
theorem tkO_some (n a k : Nat) (s : ByteArray) (x : ByteArray × Nat × Nat) : tkO n a k s (some x) = some x := rfl
theorem tkO_lt {n a k : Nat} {s : ByteArray} (h : n < a + k) : tkO n a k s none = some (s, a, 3) := if_pos h
theorem tkO_ge {n a k : Nat} {s : ByteArray} (h : ¬ n < a + k) : tkO n a k s none = none := if_neg h
theorem hd3 {A at1 at2 at3 : Nat} {o1 o2 o3 : FO} (e1 : tkO A 10 32 sSess none = o1) (n1 : o1 = none → at1 = 10 + 32) (e2 : tkO A at1 1 sFrm o1 = o2) (n2 : o2 = none → at2 = at1 + 1) (e3 : tkO A at2 1 sToo o2 = o3) (n3 : o3 = none → at3 = at2 + 1) :
   (A < 42 ∧ o3 = some (sSess, 10, 3)) ∨ (42 ≤ A ∧ A < 43 ∧ o3 = some (sFrm, 42, 3)) ∨ (43 ≤ A ∧ A < 44 ∧ o3 = some (sToo, 43, 3)) ∨ (44 ≤ A ∧ o1 = none ∧ o2 = none ∧ o3 = none ∧ at1 = 42 ∧ at2 = 43 ∧ at3 = 44) := by
 by_cases h1 : A < 10 + 32
 · rw [tkO_lt h1] at e1
   subst e1
   rw [tkO_some] at e2
   subst e2
   rw [tkO_some] at e3
   exact Or.inl ⟨by omega, e3.symm⟩
 · rw [tkO_ge h1] at e1
   subst e1
   have a1 := n1 rfl
   by_cases h2 : A < at1 + 1
   · rw [tkO_lt h2] at e2
     subst e2
     rw [tkO_some] at e3
     exact Or.inr (Or.inl ⟨by omega, by omega, by rw [← e3, a1]⟩)
   · rw [tkO_ge h2] at e2
     subst e2
     have a2 := n2 rfl
     by_cases h3 : A < at2 + 1
     · rw [tkO_lt h3] at e3
       exact Or.inr (Or.inr (Or.inl ⟨by omega, by omega, by rw [← e3, a2, a1]⟩))
     · rw [tkO_ge h3] at e3
       exact Or.inr (Or.inr (Or.inr ⟨by omega, rfl, rfl, e3.symm, a1, by omega, by have := n3 e3.symm; omega⟩))
def tlO (A a : Nat) (o : FO) : FO := if a < A then o.or (some (sTail, a, 104)) else o
theorem tlO_some (A a : Nat) (x : ByteArray × Nat × Nat) : tlO A a (some x) = some x := by unfold tlO; split <;> rfl
theorem tlO_none (A a : Nat) : tlO A a none = tlW A a := by unfold tlO tlW; split <;> rfl
theorem bd_1 {A : Nat} {F : Nat → Nat} {K : Nat} (h : A < 42) : bdW A F K = some (sSess, 10, 3) := by unfold bdW; rw [if_pos h]
theorem bd_2 {A : Nat} {F : Nat → Nat} {K : Nat} (h1 : 42 ≤ A) (h : A < 43) : bdW A F K = some (sFrm, 42, 3) := by unfold bdW; rw [if_neg (by omega), if_pos h]
theorem bd_3 {A : Nat} {F : Nat → Nat} {K : Nat} (h1 : 43 ≤ A) (h : A < 44) : bdW A F K = some (sToo, 43, 3) := by unfold bdW; rw [if_neg (by omega), if_neg (by omega), if_pos h]
theorem bd_K1 {A : Nat} {F : Nat → Nat} (h : 44 ≤ A) : bdW A F 1 = tlW A 44 := by unfold bdW; rw [if_neg (by omega), if_neg (by omega), if_neg (by omega), if_pos rfl]
theorem bd_K2 {A : Nat} {F : Nat → Nat} (h : 44 ≤ A) : bdW A F 2 = if prW A 44 (F 44) ≠ 0 then some (sPair, 44, prW A 44 (F 44)) else tlW A 109 := by unfold bdW; rw [if_neg (by omega), if_neg (by omega), if_neg (by omega), if_neg (by decide), if_pos rfl]
theorem bd_K4 {A : Nat} {F : Nat → Nat} (h : 44 ≤ A) : bdW A F 4 = if prW A 44 (F 44) ≠ 0 then some (sPair, 44, prW A 44 (F 44)) else if A < 141 then some (sBind, 109, 3) else if A < 173 then some (sShare, 141, 3) else tlW A 173 := by unfold bdW; rw [if_neg (by omega), if_neg (by omega), if_neg (by omega), if_neg (by decide), if_neg (by decide), if_pos rfl]
theorem bd_K5 {A : Nat} {F : Nat → Nat} (h : 44 ≤ A) : bdW A F 5 = if A < 46 then some (sCode, 44, 3) else if nm F 44 2 = 0 then some (sCode, 44, 1) else tlW A 46 := by unfold bdW; rw [if_neg (by omega), if_neg (by omega), if_neg (by omega), if_neg (by decide), if_neg (by decide), if_neg (by decide), if_pos rfl]
theorem bd_K6 {A : Nat} {F : Nat → Nat} (h : 44 ≤ A) : bdW A F 6 = if A < 108 then some (sSig, 44, 3) else tlW A 108 := by unfold bdW; rw [if_neg (by omega), if_neg (by omega), if_neg (by omega), if_neg (by decide), if_neg (by decide), if_neg (by decide), if_neg (by decide)]
section
variable {A at1 at2 at3 : Nat} {F : Nat → Nat} {o1 o2 o3 : FO}
def Hd3 (A at1 at2 at3 : Nat) (o1 o2 o3 : FO) : Prop := (A < 42 ∧ o3 = some (sSess, 10, 3)) ∨ (42 ≤ A ∧ A < 43 ∧ o3 = some (sFrm, 42, 3)) ∨ (43 ≤ A ∧ A < 44 ∧ o3 = some (sToo, 43, 3)) ∨ (44 ≤ A ∧ o1 = none ∧ o2 = none ∧ o3 = none ∧ at1 = 42 ∧ at2 = 43 ∧ at3 = 44)
theorem Hd3.go {K : Nat} (h : Hd3 A at1 at2 at3 o1 o2 o3) : (∃ x, o3 = some x ∧ bdW A F K = some x) ∨ (44 ≤ A ∧ o1 = none ∧ o2 = none ∧ o3 = none ∧ at1 = 42 ∧ at2 = 43 ∧ at3 = 44) := by
 rcases h with ⟨h, e⟩ | ⟨h1, h, e⟩ | ⟨h1, h, e⟩ | h
 · exact Or.inl ⟨_, e, bd_1 h⟩
 · exact Or.inl ⟨_, e, bd_2 h1 h⟩
 · exact Or.inl ⟨_, e, bd_3 h1 h⟩
 · exact Or.inr h
theorem fin1 (h : Hd3 A at1 at2 at3 o1 o2 o3) : tlO A at3 o3 = bdW A F 1 ∧ (tlO A at3 o3 = none → o1 = none ∧ o2 = none ∧ o3 = none ∧ at1 = 42 ∧ at2 = 43 ∧ at3 = 44) := by
 rcases h.go (F := F) (K := 1) with ⟨x, e, q⟩ | ⟨h1, e1, e2, e3, a1, a2, a3⟩
 · rw [e, tlO_some, q]
   exact ⟨rfl, fun h => by cases h⟩
 · rw [e3, tlO_none, bd_K1 h1, a3]
   exact ⟨rfl, fun _ => ⟨e1, e2, rfl, a1, a2, rfl⟩⟩
theorem fin2 (h : Hd3 A at1 at2 at3 o1 o2 o3) {at4 : Nat} {o4 : FO} (e4 : prO A at3 F sPair o3 = o4) (n4 : o4 = none → at4 = at3 + 65) : tlO A at4 o4 = bdW A F 2 ∧ (tlO A at4 o4 = none → (o1 = none ∧ o2 = none ∧ o3 = none ∧ at1 = 42 ∧ at2 = 43 ∧ at3 = 44) ∧ o4 = none) := by
 rcases h.go (F := F) (K := 2) with ⟨x, e, q⟩ | ⟨h1, e1, e2, e3, a1, a2, a3⟩
 · rw [e, prO_some] at e4
   subst e4
   rw [tlO_some, q]
   exact ⟨rfl, fun h => by cases h⟩
 · rw [e3, prO_zero, a3] at e4
   rw [bd_K2 h1]
   by_cases hp : prW A 44 (F 44) = 0
   · rw [if_pos hp] at e4
     subst e4
     rw [tlO_none, if_neg (by simpa using hp), n4 rfl, a3]
     exact ⟨rfl, fun _ => ⟨⟨e1, e2, by first | rfl | exact e3, a1, a2, by first | rfl | exact a3⟩, rfl⟩⟩
   · rw [if_neg hp] at e4
     subst e4
     rw [tlO_some, if_pos hp]
     exact ⟨rfl, fun h => by cases h⟩
theorem fin4 (h : Hd3 A at1 at2 at3 o1 o2 o3) {at4 at5 at6 : Nat} {o4 o5 o6 : FO} (e4 : prO A at3 F sPair o3 = o4) (n4 : o4 = none → at4 = at3 + 65) (e5 : tkO A at4 32 sBind o4 = o5) (n5 : o5 = none → at5 = at4 + 32) (e6 : tkO A at5 32 sShare o5 = o6) (n6 : o6 = none → at6 = at5 + 32) :
   tlO A at6 o6 = bdW A F 4 ∧ (tlO A at6 o6 = none → (o1 = none ∧ o2 = none ∧ o3 = none ∧ at1 = 42 ∧ at2 = 43 ∧ at3 = 44) ∧ o4 = none ∧ o5 = none ∧ o6 = none ∧ at4 = 109 ∧ at5 = 141) := by
 rcases h.go (F := F) (K := 4) with ⟨x, e, q⟩ | ⟨h1, e1, e2, e3, a1, a2, a3⟩
 · rw [e, prO_some] at e4
   subst e4
   rw [tkO_some] at e5
   subst e5
   rw [tkO_some] at e6
   subst e6
   rw [tlO_some, q]
   exact ⟨rfl, fun h => by cases h⟩
 · rw [e3, prO_zero, a3] at e4
   rw [bd_K4 h1]
   by_cases hp : prW A 44 (F 44) = 0
   · rw [if_pos hp] at e4
     subst e4
     have a4 := n4 rfl
     rw [if_neg (by simpa using hp)]
     by_cases h5 : A < at4 + 32
     · rw [tkO_lt h5] at e5
       subst e5
       rw [tkO_some] at e6
       subst e6
       rw [tlO_some, if_pos (by omega), a4, a3]
       exact ⟨rfl, fun h => by cases h⟩
     · rw [tkO_ge h5] at e5
       subst e5
       have a5 := n5 rfl
       rw [if_neg (by omega)]
       by_cases h6 : A < at5 + 32
       · rw [tkO_lt h6] at e6
         subst e6
         rw [tlO_some, if_pos (by omega), a5, a4, a3]
         exact ⟨rfl, fun h => by cases h⟩
       · rw [tkO_ge h6] at e6
         subst e6
         rw [tlO_none, if_neg (by omega), n6 rfl, a5, a4, a3]
         exact ⟨rfl, fun _ => ⟨⟨e1, e2, e3, a1, a2, by first | rfl | exact a3⟩, rfl, rfl, rfl, by omega, by omega⟩⟩
   · rw [if_neg hp] at e4
     subst e4
     rw [tkO_some] at e5
     subst e5
     rw [tkO_some] at e6
     subst e6
     rw [tlO_some, if_pos hp]
     exact ⟨rfl, fun h => by cases h⟩
def cdO (c a : Nat) (o : FO) : FO := if c = 0 then o.or (some (sCode, a, 1)) else o
theorem cdO_some (c a : Nat) (x : ByteArray × Nat × Nat) : cdO c a (some x) = some x := by unfold cdO; split <;> rfl
theorem fin5 (h : Hd3 A at1 at2 at3 o1 o2 o3) {at4 : Nat} {o4 o5 : FO} (e4 : tkO A at3 2 sCode o3 = o4) (n4 : o4 = none → at4 = at3 + 2) (e5 : cdO (nm (tkB o4 F at3) 0 2) at3 o4 = o5) :
   tlO A at4 o5 = bdW A F 5 ∧ (tlO A at4 o5 = none → (o1 = none ∧ o2 = none ∧ o3 = none ∧ at1 = 42 ∧ at2 = 43 ∧ at3 = 44) ∧ o4 = none) := by
 rcases h.go (F := F) (K := 5) with ⟨x, e, q⟩ | ⟨h1, e1, e2, e3, a1, a2, a3⟩
 · rw [e, tkO_some] at e4
   subst e4
   rw [cdO_some] at e5
   subst e5
   rw [tlO_some, q]
   exact ⟨rfl, fun h => by cases h⟩
 · rw [e3, a3] at e4
   rw [bd_K5 h1]
   by_cases h4 : A < 44 + 2
   · rw [tkO_lt h4] at e4
     subst e4
     rw [cdO_some] at e5
     subst e5
     rw [tlO_some, if_pos (by omega)]
     exact ⟨rfl, fun h => by cases h⟩
   · rw [tkO_ge h4] at e4
     subst e4
     have en : nm (tkB none F at3) 0 2 = nm F 44 2 := by rw [a3]; exact nm_sh F 44 2
     rw [en] at e5
     rw [if_neg (by omega)]
     unfold cdO at e5
     by_cases hc : nm F 44 2 = 0
     · rw [if_pos hc] at e5
       subst e5
       rw [if_pos hc, a3]
       exact ⟨tlO_some _ _ _, fun h => by rw [show (none : FO).or (some (sCode, 44, 1)) = some (sCode, 44, 1) from rfl, tlO_some] at h; cases h⟩
     · rw [if_neg hc] at e5
       subst e5
       rw [if_neg hc, tlO_none, n4 rfl, a3]
       exact ⟨rfl, fun _ => ⟨⟨e1, e2, by first | rfl | exact e3, a1, a2, by first | rfl | exact a3⟩, rfl⟩⟩
theorem fin6 (h : Hd3 A at1 at2 at3 o1 o2 o3) {at4 : Nat} {o4 : FO} (e4 : tkO A at3 64 sSig o3 = o4) (n4 : o4 = none → at4 = at3 + 64) :
   tlO A at4 o4 = bdW A F 6 ∧ (tlO A at4 o4 = none → (o1 = none ∧ o2 = none ∧ o3 = none ∧ at1 = 42 ∧ at2 = 43 ∧ at3 = 44) ∧ o4 = none) := by
 rcases h.go (F := F) (K := 6) with ⟨x, e, q⟩ | ⟨h1, e1, e2, e3, a1, a2, a3⟩
 · rw [e, tkO_some] at e4
   subst e4
   rw [tlO_some, q]
   exact ⟨rfl, fun h => by cases h⟩
 · rw [e3, a3] at e4
   rw [bd_K6 h1]
   by_cases h4 : A < 44 + 64
   · rw [tkO_lt h4] at e4
     subst e4
     rw [tlO_some, if_pos (by omega)]
     exact ⟨rfl, fun h => by cases h⟩
   · rw [tkO_ge h4] at e4
     subst e4
     rw [if_neg (by omega), tlO_none, n4 rfl, a3]
     exact ⟨rfl, fun _ => ⟨⟨e1, e2, by first | rfl | exact e3, a1, a2, by first | rfl | exact a3⟩, rfl⟩⟩
end
end Go.Proofs.YtgjclegpnbjlkaaGreatDoor
