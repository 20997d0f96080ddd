/- Joined: W9, W10. -/
import Derived.Test.YtgjclegpnbjlkaaGreatDoorMwJ
import Derived.Test.YtgjclegpnbjlkaaGreatDoorMwU
import Derived.Test.YtgjclegpnbjlkaaGreatDoorMwT
import Derived.Lib.SlBytesConst
import Derived.ArgAppend
set_option linter.all false
namespace Go.Proofs.YtgjclegpnbjlkaaGreatDoor
set_option maxHeartbeats 16000000
set_option maxRecDepth 100000
open Go.RowKit
theorem wp_bsl2 {P : Program} {w : World} {op : Oper} {a : Act} {K : Act → World → Prop} {Q : Exit → Act → World → Prop} (t e : TypeId) (x0 x1 : Operand) (ho : op.op = .buildSlice t 2 #[(0, x0), (1, x1)]) (v0 v1 : Value) (hx0 : a.eval x0 = v0) (hx1 : a.eval x1 = v1) (cells : Array Value) (ie : TypeInfo) (z : Value)
   (hu : P.underlying t = some (.slice e)) (hie : P.info? e = some ie) (hz : ie.zero = some z) (s : Nat) (hs : ie.size = s) (h0 : 0 < s) (h1 : s ≤ 1000)
   (hf : Instr.fill (fun i => some (i * s, s)) ((Array.range (2 * s)).map (z.cells[· % z.cells.size]!)) [(0, v0), (1, v1)] = some cells)
   (h : ∀ g w', w.heap.size ≤ g → Blk w' g cells e → Chg w w' [] → K (a.put op.dst (.slice (some ⟨g, 0, none⟩) 2 2)) w') : op.wp P a w K Q := by
 subst hs hx0 hx1
 exact wp_buildSlice t e 2 _ ho cells ie z hu hie hz (by omega) (by omega) (by simpa using hf) (h _ _ (Nat.le_refl _) (Blk.new w _ _) ((Chg.refl w []).alloc _))
theorem fill_y2 (a b : Int) : Instr.fill (fun i => some (i * 1, 1)) ((Array.range (2 * 1)).map ((Value.int .u8 0).cells[· % (Value.int .u8 0).cells.size]!)) [(0, .int .u8 a), (1, .int .u8 b)] = some #[.int .u8 a, .int .u8 b] := by kernel_rfl
theorem fill_l2 (p q : Option Addr) (n m c d : Nat) : Instr.fill (fun i => some (i * 1, 1)) ((Array.range (2 * 1)).map ((Value.slice none 0 0).cells[· % (Value.slice none 0 0).cells.size]!)) [(0, .slice p n c), (1, .slice q m d)] = some #[.slice p n c, .slice q m d] := by kernel_rfl
theorem lstRow : ∃ i, Tryz.prog.info? 29 = some i ∧ i.zero = some (.slice none 0 0) ∧ i.size = 1 ∧ i.bytes = 24 := by
 have h : (Tryz.prog.info? 29).map (fun i => (i.zero, i.size, i.bytes)) = some (some (.slice none 0 0), 1, 24) := by kernel_rfl
 cases hi : Tryz.prog.info? 29 with
 | none => rw [hi] at h; simp at h
 | some i => rw [hi] at h; simp at h; exact ⟨i, rfl, h.1, h.2.1, h.2.2⟩
def ftB (a b : Nat) : Nat → Nat := fun j => if j = 0 then a else b
theorem sl_ft {w : World} {g : Nat} {a b : Int} (B : Blk w g #[.int .u8 a, .int .u8 b] 5) (h : (0 ≤ a ∧ a ≤ 255) ∧ 0 ≤ b ∧ b ≤ 255) : Sl w (.slice (some ⟨g, 0, none⟩) 2 2) 2 (ftB a.toNat b.toNat) := by
 have e : #[Value.int .u8 a, .int .u8 b] = yC 2 (ftB a.toNat b.toNat) := by
   have e0 : a = ((ftB a.toNat b.toNat 0 : Nat) : Int) := by show a = ((a.toNat : Nat) : Int); omega
   have e1 : b = ((ftB a.toNat b.toNat 1 : Nat) : Int) := by show b = ((b.toNat : Nat) : Int); omega
   conv => lhs; rw [e0, e1]
   rfl
 rw [e] at B
 exact B.sly (fun i _ => by unfold ftB; split <;> omega) (by omega)
def hdB (m : Ms) : Nat → Nat := cat m.ses 32 (ftB m.fr.toNat m.to.toNat)
def b2 (n : Nat) : Nat → Nat := fun j => if j = 0 then n / 256 % 256 else n % 256
theorem sl_b2 (n : Nat) (hn : n ≤ 65535) (w : World) : Sl (w.alloc (.cells #[.int .u8 ((n : Int) / 256), .int .u8 ((n : Int) % 256)] 5)) (.slice (some ⟨w.heap.size, 0, none⟩) 2 2) 2 (b2 n) := by
 have e : #[Value.int .u8 ((n : Int) / 256), .int .u8 ((n : Int) % 256)] = yC 2 (b2 n) := by
   have e0 : ((n : Int) / 256) = ((b2 n 0 : Nat) : Int) := by show _ = ((n / 256 % 256 : Nat) : Int); omega
   have e1 : ((n : Int) % 256) = ((b2 n 1 : Nat) : Int) := by show _ = ((n % 256 : Nat) : Int); omega
   rw [e0, e1]; rfl
 rw [e]
 exact (Blk.new w _ _).sly (fun i _ => by unfold b2; split <;> omega) (by omega)
theorem bodyOf_5 (m : Ms) (hk : m.kind = 5) (hf : 0 ≤ m.fr ∧ m.fr ≤ 255) (ht : 0 ≤ m.to ∧ m.to ≤ 255) (hs : ∀ i, i < 32 → m.ses i < 256) (w : World) (cn : Nat) (hc : m.code = (cn : Int)) (hc2 : cn ≤ 65535) :
   Calls Tryz.prog 29 #[.agg (msC m)] w fun e w' => ∃ v, e = .returned v ∧ Own w' w.heap.size v (34 + 2) (cat (hdB m) 34 (b2 cn)) ∧ Chg w w' [] := by
 have HS : Hid (∀ i, i < 32 → m.ses i < 256) := hs
 have HP : Hid ((0 ≤ m.fr ∧ m.fr ≤ 255) ∧ 0 ≤ m.to ∧ m.to ≤ 255) := ⟨hf, ht⟩
 have ef : IntKind.u8.wrap m.fr = m.fr := by rw [u8_conv]; omega
 have et : IntKind.u8.wrap m.to = m.to := by rw [u8_conv]; omega
 obtain ⟨iu, hiu, hiuz, hius, _⟩ := u8Row
 obtain ⟨il, hil, hilz, hils, _⟩ := lstRow
 have HK : Hid (m.kind = 5) := hk
 have HX : Hid (m.code = (cn : Int) ∧ cn ≤ 65535) := ⟨hc, hc2⟩
 clear hs hf ht hk hc hc2
 go_enter Tryz.func29, Tryz.ntmps29
 go_wp2_with (refine box_w rfl 35 _ rfl (msC m) rfl ?_; intro g w1 hg B k1)
 refine wp_region_held_drew (S := fun w' => Chg w1 w' []) (by kernel_rfl) ((Chg.refl w1 _).drew) (fun hHeld => ?_)
 refine tv ?_ 0 (some 4) rfl (fun w hSw => ?_) hHeld ?_; rotate_left; (· (go_simp; try with_reducible rfl)); try simp only [Act.put, sA]
 refine tv ?_ 1 (some 5) rfl (fun w hSw => ?_) hHeld ?_; rotate_left; (· (go_simp; try with_reducible rfl)); try simp only [Act.put, sA]
 refine tv ?_ 2 (some 6) rfl (fun w hSw => ?_) hHeld ?_; rotate_left; (· (go_simp; try with_reducible rfl)); try simp only [Act.put, sA]
 refine tv (.int .i64 m.fr) 3 (some 7) rfl (fun w hSw => ?_) hHeld ?_
 · have c4 := ms_at (B.chg hSw (by simp)) 33 _ (ms_fr m)
   (go_simp; try with_reducible rfl)
 try simp only [Act.put, sA]
 refine tv ?_ 4 (some 8) rfl (fun w hSw => ?_) hHeld ?_; rotate_left; (· (go_simp; try with_reducible rfl)); try simp only [Act.put, sA]
 refine tv ?_ 5 (some 9) rfl (fun w hSw => ?_) hHeld ?_; rotate_left; (· (go_simp; try with_reducible rfl)); try simp only [Act.put, sA]
 refine tv (.int .i64 m.to) 6 (some 10) rfl (fun w hSw => ?_) hHeld ?_
 · have c4 := ms_at (B.chg hSw (by simp)) 34 _ (ms_to m)
   (go_simp; try with_reducible rfl)
 try simp only [Act.put, sA]
 refine tv ?_ 7 (some 11) rfl (fun w hSw => ?_) hHeld ?_; rotate_left; (· (go_simp; try with_reducible rfl)); try simp only [Act.put, sA]
 refine wpAnyH_ready (rs := [8]) (by kernel_rfl) (by simp) ?_
 refine AllReadyH.cons (o := _) rfl (fun K hK => ?_) ?_
 ·
   rw [if_pos (by rfl)]
   refine wp_bsl2 29 5 (.tmp 8) (.tmp 11) rfl (.int .u8 m.fr) (.int .u8 m.to) rfl rfl #[.int .u8 m.fr, .int .u8 m.to] iu (.int .u8 0) Tryz.underlying29 hiu hiuz 1 hius (by omega) (by omega) (fill_y2 _ _) ?_
   intro gz w5 hgz Bz k5
   refine hK.out _ _ (hHeld.trans1 k5) (fun hHeld => ?_)
   clear hK K
   try simp only [Act.put, sA]
   refine wpAnyH_ready (rs := [9]) (by kernel_rfl) (by simp) ?_
   refine AllReadyH.cons (o := _) rfl (fun K hK => ?_) ?_
   ·
     rw [if_pos (by rfl)]
     refine wp_bsl2 36 29 (.tmp 5) (.tmp 12) rfl (.slice (some ⟨g, 1, none⟩) 32 32) (.slice (some ⟨gz, 0, none⟩) 2 2) rfl rfl #[.slice (some ⟨g, 1, none⟩) 32 32, .slice (some ⟨gz, 0, none⟩) 2 2] il (.slice none 0 0) Tryz.underlying36 hil hilz 1 hils (by omega) (by omega) (fill_l2 _ _ _ _ _ _) ?_
     intro gl w6 hgl Bl k6
     refine hK.out _ _ (hHeld.trans1 k6) (fun hHeld => ?_)
     clear hK K
     try simp only [Act.put, sA]
     refine wpAnyH_ready (rs := [10]) (by kernel_rfl) (by simp) ?_
     refine AllReadyH.cons (o := _) rfl (fun K hK => ?_) ?_
     ·
       go_simp
       refine (Concat_2 gl 2 _ _ 32 2 m.ses (ftB m.fr.toNat m.to.toNat) (by omega) (by omega) w6 Bl (((ms_ses B HS.out).sl 32 (by omega) (by omega)).chg hHeld (Off.nil _)) ((sl_ft Bz HP.out).chg k6 (Off.nil _))).mono ?_
       rintro e w7 ⟨v7, rfl, O7, k7⟩
       go_wp2_with fail
       refine hK.out _ _ (hHeld.trans1 k7) (fun hHeld => ?_)
       clear hK K
       try simp only [Act.put, sA]
       refine tv ?_ 11 (some 3) rfl (fun w hSw => ?_) hHeld ?_; rotate_left; (· (go_simp; try with_reducible rfl)); try simp only [Act.put, sA]
       refine wpAnyH_done (by kernel_rfl) ?_ _
       have ck := ms_at (B.chg hHeld (by simp)) 0 _ (ms_kind m)
       rw [HK.out] at ck
       have O8 : Own w7 w.heap.size v7 34 (hdB m) := O7.base (by have := k1.size; have := k5.size; have := k6.size; have e0 : w1.drew.heap.size = w1.heap.size := rfl; omega)
       have C7 : Chg w w7 [] := k1.trans1 hHeld
       have hz7 : w.heap.size ≤ w7.heap.size := C7.size
       have B7 := B.chg hHeld (by simp)
       have hT : ¬ (35 : TypeId) = 5 := by decide
       have cc := ms_at B7 230 _ (ms_code m)
       rw [HX.out.1] at cc
       have hcn : cn ≤ 65535 := HX.out.2
       have S5 := sl_b2 cn hcn w7
       have O5 := O8.chg ((Chg.refl w7 []).alloc (.cells #[.int .u8 ((cn : Int) / 256), .int .u8 ((cn : Int) % 256)] 5)) (fun _ _ => by simp)
       have hz5 : w.heap.size ≤ (w7.alloc (.cells #[.int .u8 ((cn : Int) / 256), .int .u8 ((cn : Int) % 256)] 5)).heap.size := by simp; omega
       go_wp2_with (first
         | (with_reducible refine append_y ?_ (.tmp 47) (.tmp 55) ?_ w.heap.size v7 _ 34 2 _ (b2 cn) ?_ ?_ O5 S5 ?_ ?_ ?_
            · rfl
            · rfl
            · rfl
            · rfl
            · omega
            · exact hz5
            intro va55 wa55 Oa55 ka55))
       go_ret
       exact ⟨_, rfl, Oa55, (C7.alloc _).trans ka55 (fun k hk => Or.inr (O5.ob_ge k hk).1)⟩
     exact AllReadyH.nil
   exact AllReadyH.nil
 exact AllReadyH.nil
end Go.Proofs.YtgjclegpnbjlkaaGreatDoor

set_option linter.all false
namespace Go.Proofs.YtgjclegpnbjlkaaGreatDoor
set_option maxHeartbeats 16000000
set_option maxRecDepth 100000
open Go.RowKit
def mgB : Nat → Nat := fun j => if j = 0 then 82 else if j = 1 then 73 else if j = 2 then 77 else 69
def vkB (k : Nat) : Nat → Nat := fun j => if j = 0 then 1 else k
theorem append_full {w : World} {ops : Array Oper} {rest : List Oper} {o : Oper} {a : Act} {Q : Exit → Act → World → Prop} (hgd : o.guard = none) (so xo : Operand)
   (ho : o.op = .call { callee := .builtin .append, args := #[so, xo], argTypes := #[29, 29] }) (y n gx m : Nat) (f g : Nat → Nat) (hs : a.eval so = .slice (some ⟨y, 0, none⟩) n n) (hx : a.eval xo = .slice (some ⟨gx, 0, none⟩) m m)
   (hB : Bs w y 0 n f) (hX : Bs w gx 0 m g) (hm : 0 < m) (hnm : n + m ≤ 1000000)
   (h : ∀ v' w', Own w' w.heap.size v' (n + m) (cat f n g) → Chg w w' [] → wpList Tryz.prog ops Q rest (a.put o.dst v') w') : wpList Tryz.prog ops Q (o :: rest) a w := by
 obtain ⟨i, hi, hz, h1, h2⟩ := u8Row
 have holds : ∀ b, (some (⟨y, 0, none⟩ : Addr)) = some b → ∀ j u, (yL n f)[j]? = some u → w.cell? (b.add j) = some u := by
   intro b hb j u hj
   cases hb
   obtain ⟨hj1, rfl⟩ := yL_some _ _ _ _ hj
   refine add_cell ?_
   exact hB.cell j hj1
 have hnews : ∀ j u, (yL m g)[j]? = some u → w.cell? ((⟨gx, 0, none⟩ : Addr).add j) = some u := by
   intro j u hj
   obtain ⟨hj1, rfl⟩ := yL_some _ _ _ _ hj
   refine add_cell ?_
   exact hX.cell j hj1
 refine wpList_append_grows w hgd so xo 29 ho 5 i (.int .u8 0) 1 1 Tryz.underlying29 hi hz h1 h2 rfl (by decide) (some ⟨y, 0, none⟩) n n (yL n f) hs (fun hh => by cases hh) (by rw [yL_len, Nat.mul_one]) holds ⟨gx, 0, none⟩ m m (yL m g) hx (by rw [yL_len, Nat.mul_one]) hnews (yL_one m g) (by omega) (by simp only [maxLen]; omega) (by omega) ?_
 intro v' w' q1 q2
 rw [yL_cat] at q1
 refine h v' w' ⟨q1, fun k hk => ?_⟩ (Chg.grown (v := .slice none 0 0) q2)
 unfold cat
 by_cases a : k < n
 · rw [if_pos a]; exact hB.bd k a
 · rw [if_neg a]; exact hX.bd _ (by omega)
theorem bs_new (w : World) (n : Nat) (f : Nat → Nat) (fr : Nat × Nat) (hf : ∀ i, i < n → f i < 256) : Bs (w.alloc (.cells (yC n f) 5 fr)) w.heap.size 0 n f := ⟨by simp, hf, fun i hi => by
 have hb : (w.alloc (.cells (yC n f) 5 fr)).heap[w.heap.size]? = some (.cells (yC n f) 5 fr) := by show (w.heap.push _)[w.heap.size]? = _; simp
 rw [Nat.zero_add]
 simp only [World.cell?, hb]
 unfold yC
 simp [hi]⟩
theorem mgB_lt (i : Nat) : mgB i < 256 := by unfold mgB; split <;> (try split) <;> (try split) <;> omega
theorem vkB_lt (k i : Nat) (hk : k < 256) : vkB k i < 256 := by unfold vkB; split <;> omega
def heB (k n : Nat) : Nat → Nat := cat (cat mgB 4 (vkB k)) (4 + 2) (b4 n)
def fwB (k n : Nat) (F : Nat → Nat) : Nat → Nat := cat (heB k n) (4 + 2 + 4) F
def frB (k n : Nat) (F : Nat → Nat) : Nat → Nat := cat (fwB k n F) (4 + 2 + 4 + n) (sha (fwB k n F) (4 + 2 + 4 + n))
theorem s4_bs {w : World} {g : Nat} {f : Nat → Nat} {N : Nat} {T : TypeId} (h : Blk w g (yC 4 (sha f N)) T) : Bs w g 0 4 (sha f N) := ⟨h.lt, fun i _ => by
 show dig _ i < 256
 unfold dig
 omega, fun i hi => by
 rw [Nat.zero_add, h.cell]
 unfold yC
 simp [hi]⟩
theorem msInfo : (Tryz.prog.info? 35).map (·.size) = some 231 := by kernel_rfl
theorem Encode_ok (m : Ms) (k : Nat) (hk : m.kind = (k : Int)) (hk6 : k < 256) (n : Nat) (F : Nat → Nat) (hn : n ≤ 2000000) (w : World) (hG : Gl w)
   (hC : ∀ W, Chg w W [] → Calls Tryz.prog 28 #[.agg (msC m)] W fun e w' => e = .returned .nilIface ∧ Chg W w' [])
   (hB : ∀ W, Chg w W [] → Calls Tryz.prog 29 #[.agg (msC m)] W fun e w' => ∃ v, e = .returned v ∧ Own w' W.heap.size v n F ∧ Chg W w' []) :
   Calls Tryz.prog 7 #[.agg (msC m)] w fun e w' => ∃ v, e = .returned (.tuple #[v, .nilIface]) ∧ Own w' w.heap.size v (4 + 2 + 4 + n + 4) (frB k n F) ∧ Chg w w' [] := by
 have HK : Hid (m.kind = (k : Int)) := hk
 have HN : Hid (n ≤ 2000000 ∧ k < 256) := ⟨hn, hk6⟩
 have HG : Hid (Gl w) := hG
 have HC : Hid (∀ W, Chg w W [] → Calls Tryz.prog 28 #[.agg (msC m)] W fun e w' => e = .returned .nilIface ∧ Chg W w' []) := hC
 have HBd : Hid (∀ W, Chg w W [] → Calls Tryz.prog 29 #[.agg (msC m)] W fun e w' => ∃ v, e = .returned v ∧ Own w' W.heap.size v n F ∧ Chg W w' []) := hB
 have ek : IntKind.u8.wrap (k : Int) = (k : Int) := by rw [u8_conv]; omega
 clear hk hn hG hC hB hk6
 go_enter Tryz.func7, Tryz.ntmps7
 go_wp2_with (first
   | (refine box_w rfl 35 _ rfl (msC m) rfl ?_; intro g w1 hg B k1)
   | (refine wpList_load_row rfl 35 _ rfl g rfl 35 _ (0, 0) _ B Tryz.underlying35 rfl (by rw [msC_size]; exact msInfo) ?_))
 refine (HC.out _ k1).mono ?_
 rintro e w2 ⟨rfl, k2⟩
 have B2 := B.chg k2 (by simp)
 have C2 := k1.trans1 k2
 clear B
 go_wp2_with (refine wpList_load_row rfl 35 _ rfl g rfl 35 _ (0, 0) _ B2 Tryz.underlying35 rfl (by rw [msC_size]; exact msInfo) ?_)
 --CUT0
 refine (HBd.out _ C2).mono ?_
 rintro e w3 ⟨v3, rfl, O3, k3⟩
 have C3 := C2.trans1 k3
 obtain ⟨p3, q3, rfl⟩ := O3.sl.fm
 have ck := ms_at (B2.chg k3 (by simp)) 0 _ (ms_kind m)
 rw [HK.out] at ck
 obtain ⟨wa, hwa⟩ : ∃ z, z = w3.alloc (.cells #[.int .u8 82, .int .u8 73, .int .u8 77, .int .u8 69] 5 (4, 5)) := ⟨_, rfl⟩
 have hcv : (convert 29 29 (.slice (some ⟨w3.heap.size, 0, none⟩) 4 4)).run Tryz.prog (w3.alloc (.cells #[.int .u8 82, .int .u8 73, .int .u8 77, .int .u8 69] 5)) = .ok (.slice (some ⟨w3.heap.size, 0, none⟩) 4 4) wa := by
   rw [hwa]; exact Lib.run_convert_bytes_const w3 29 5 _ 4 4 Tryz.underlying29 Tryz.underlying5
 have ka : Chg w3 wa [] := by rw [hwa]; exact (Chg.refl w3 []).alloc _
 have Ba : Bs wa w3.heap.size 0 4 mgB := by rw [hwa]; exact bs_new w3 4 mgB (4, 5) (fun i _ => mgB_lt i)
 have c3 := ms_at ((B2.chg k3 (by simp)).chg ka (by simp)) 0 _ (ms_kind m)
 rw [HK.out] at c3
 have hla : w3.heap.size < wa.heap.size := Ba.lt
 have Bb : Bs (wa.alloc (.cells #[.int .u8 1, .int .u8 (k : Int)] 5)) w3.heap.size 0 4 mgB := Ba.alloc _
 have Bc : Bs (wa.alloc (.cells #[.int .u8 1, .int .u8 (k : Int)] 5)) wa.heap.size 0 2 (vkB k) := bs_new wa 2 (vkB k) (0, 0) (fun i _ => vkB_lt k i HN.out.2)
 clear hwa ck
 go_wp2_with (first
   | (with_reducible refine append_full ?_ (.tmp 17) (.tmp 21) ?_ w3.heap.size 4 wa.heap.size 2 mgB (vkB k) ?_ ?_ Bb Bc ?_ ?_ ?_
      · rfl
      · rfl
      · rfl
      · rfl
      · omega
      · omega
      intro v6 w6 O6 k6))
 obtain ⟨b6, hb6⟩ : ∃ z, z = (wa.alloc (.cells #[.int .u8 1, .int .u8 (k : Int)] 5)).heap.size := ⟨_, rfl⟩
 have hb6' : w3.heap.size ≤ b6 := by rw [hb6]; simp; omega
 have K6 : Chg w3 w6 [] := (ka.alloc _).trans1 k6
 rw [← hb6] at O6
 have hs6 : b6 ≤ w6.heap.size := by rw [hb6]; exact k6.size
 have C6 := C3.trans1 K6
 have O3s := O3.chg K6 (fun _ _ => by simp)
 have HOb : Hid (∀ j, j ∈ ob (Value.slice p3 n q3) → j < b6) := fun j hj => Nat.lt_of_lt_of_le (O3.ob_ge j hj).2 hb6'
 have Hb6 : Hid (w.heap.size ≤ b6) := Nat.le_trans C3.size hb6'
 clear hb6 Bb Bc Ba c3 hcv ka k6 K6 hla
 go_wp2_with fail
 --CUT1
 refine (putLength_s v6 b6 (4 + 2) n _ (by have := HN.out; omega) (by omega) _ O6 hs6).mono ?_
 rintro e w7 ⟨v7, rfl, O7, c7⟩
 obtain ⟨p7, q7, rfl⟩ := O7.sl.fm
 have S3 : Sl w7 (.slice p3 n q3) n F := by
   obtain ⟨l, h1, h2⟩ := c7
   exact (O3s.chg h1 (fun j hj hl => by have := h2 j hl; have := HOb.out j hj; omega)).sl
 have C7 : Chg w w7 [] := Cb.low C6 c7 Hb6.out
 have S7 := O7.sl
 have hB7 := Blk.new w7 #[.slice p7 (4 + 2 + 4) q7, .slice p3 n q3] 29
 have kz : Chg w7 (w7.alloc (.cells #[.slice p7 (4 + 2 + 4) q7, .slice p3 n q3] 29)) [] := (Chg.refl w7 []).alloc _
 have hq := Concat_2 w7.heap.size 2 (.slice p7 (4 + 2 + 4) q7) (.slice p3 n q3) (4 + 2 + 4) n (heB k n) F (by omega) (by have := HN.out; omega) _ hB7 (S7.chg kz (Off.nil _)) (S3.chg kz (Off.nil _))
 go_wp2_with fail
 --CUT2
 refine hq.mono ?_
 rintro e w8 ⟨v8, rfl, O8, k8⟩
 have C8 := (C7.alloc _).trans1 k8
 have O8b : Own w8 w.heap.size v8 (4 + 2 + 4 + n) (fwB k n F) := O8.base (Nat.le_trans C7.size (by simp))
 clear hq O8 k8 S7 S3 hB7 O7
 go_wp2_with fail
 --CUT3
 refine (sumOf_s v8 (4 + 2 + 4 + n) (fwB k n F) w8 (HG.out.chg C8 (by simp) (by simp)) O8b.sl (by have := HN.out; omega)).mono ?_
 rintro e w9 ⟨rfl, k9⟩
 have C9 := C8.trans1 k9
 have O9 := O8b.chg k9 (fun _ _ => by simp)
 have Hz9 : Hid (w.heap.size ≤ w9.heap.size) := C9.size
 go_wp2_with (first
   | (with_reducible refine alloc_w rfl 98 rfl (.agg (yC 4 (fun _ => 0))) zero4 (yC 4 (fun _ => 0)) rfl ?_; intro sb wb hsb BS kb)
   | (refine store_w BS rfl 98 _ _ (yC 4 (sha (fwB k n F) (4 + 2 + 4 + n))) rfl rfl rfl s4Info rfl (yC_one 4 _) ?_; intro wc BC kc; have Oc := O9.chg (kb.new kc hsb) (fun _ _ => by simp); have Sc := (s4_bs BC).sl 4 (by omega) (by omega); have hzc : w.heap.size ≤ wc.heap.size := Nat.le_trans Hz9.out (kb.new kc hsb).size)
   | (with_reducible refine append_y ?_ (.tmp 32) (.tmp 33) ?_ w.heap.size v8 _ (4 + 2 + 4 + n) 4 _ (sha (fwB k n F) (4 + 2 + 4 + n)) ?_ ?_ Oc Sc ?_ ?_ ?_
      · rfl
      · rfl
      · rfl
      · rfl
      · have := HN.out; omega
      · exact hzc
      intro vd wd Od kd))
 --CUT4
 go_ret2
 exact ⟨_, rfl, Od, (C9.trans1 (kb.new kc hsb)).trans kd (fun j hj => Or.inr (Oc.ob_ge j hj).1)⟩
end Go.Proofs.YtgjclegpnbjlkaaGreatDoor
