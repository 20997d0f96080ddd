/- Joined: H6, H7, H8. -/
import Derived.Test.YtgjclegpnbjlkaaGreatDoorH5
set_option linter.all false
namespace Go.Proofs.YtgjclegpnbjlkaaGreatDoor
set_option maxHeartbeats 4000000
set_option maxRecDepth 100000
open Go.RowKit
def KL : List Nat := [4794697086780616226, 8158064640168781261, 13096744586834688815, 16840607885511220156, 4131703408338449720, 6480981068601479193, 10538285296894168987, 12329834152419229976, 15566598209576043074, 1334009975649890238, 2608012711638119052, 6128411473006802146, 8268148722764581231, 9286055187155687089, 11230858885718282805, 13951009754708518548, 16472876342353939154, 17275323862435702243, 1135362057144423861, 2597628984639134821, 3308224258029322869, 5365058923640841347, 6679025012923562964, 8573033837759648693, 10970295158949994411, 12119686244451234320, 12683024718118986047, 13788192230050041572, 14330467153632333762, 15395433587784984357, 489312712824947311, 1452737877330783856, 2861767655752347644, 3322285676063803686, 5560940570517711597, 5996557281743188959, 7280758554555802590, 8532644243296465576, 9350256976987008742, 10552545826968843579, 11727347734174303076, 12113106623233404929, 14000437183269869457, 14369950271660146224, 15101387698204529176, 15463397548674623760, 17586052441742319658, 1182934255886127544, 1847814050463011016, 2177327727835720531, 2830643537854262169, 3796741975233480872, 4115178125766777443, 5681478168544905931, 6601373596472566643, 7507060721942968483, 8399075790359081724, 8693463985226723168, 9568029438360202098, 10144078919501101548, 10430055236837252648, 11840083180663258601, 13761210420658862357, 14299343276471374635, 14566680578165727644, 15097957966210449927, 16922976911328602910, 17689382322260857208, 500013540394364858, 748580250866718886, 1242879168328830382, 1977374033974150939, 2944078676154940804, 3659926193048069267, 4368137639120453308, 4836135668995329356, 5532061633213252278, 6448918945643986474, 6902733635092675308, 7801388544844847127]
def IVL : List Nat := [7640891576956012808, 13503953896175478587, 4354685564936845355, 11912009170470909681, 5840696475078001361, 11170449401992604703, 2270897969802886507, 6620516959819538809]
def KK (i : Nat) : Nat := KL.getD i 0
def IV (i : Nat) : Nat := IVL.getD i 0
theorem KK_lt : ∀ i, i < 80 → U (KK i) := by unfold U; decide
theorem IV_lt : ∀ i, i < 8 → U (IV i) := by unfold U; decide
def Gl (w : World) : Prop := ∃ t0 f0 t1 f1, w.heap[2]? = some (.cells (vC 80 KK) t0 f0) ∧ w.heap[1]? = some (.cells (vC 8 IV) t1 f1)
theorem Gl.lt {w : World} (h : Gl w) : 2 < w.heap.size := by
 obtain ⟨_, _, _, _, h0, h1⟩ := h
 have a := (Array.getElem?_eq_some_iff.1 h0).1
 have b := (Array.getElem?_eq_some_iff.1 h1).1
 omega
theorem Gl.chg {w w' : World} {ch : List Nat} (h : Gl w) (hc : Chg w w' ch) (h0 : ¬ 1 ∈ ch) (h1 : ¬ 2 ∈ ch) : Gl w' := by
 have hl := h.lt
 obtain ⟨t0, f0, t1, f1, e0, e1⟩ := h
 exact ⟨t0, f0, t1, f1, by rw [hc.block 2 (by omega) (by first | exact h0 | exact h1)]; exact e0, by rw [hc.block 1 (by omega) (by first | exact h1 | exact h0)]; exact e1⟩
theorem Gl.kc {w : World} (h : Gl w) : Kc w KK := by
 have hl := h.lt
 obtain ⟨t0, f0, t1, f1, e0, e1⟩ := h
 exact ⟨by omega, KK_lt, fun i hi => by simp [World.cell?, e0]; exact vC_get 80 KK i hi⟩
theorem HInfo : (Tryz.prog.info? 200).map (·.size) = some 138 := by kernel_rfl
theorem S8Info : (Tryz.prog.info? 189).map (·.size) = some 8 := by kernel_rfl
theorem DInfo : (Tryz.prog.info? 143).map (·.size) = some 64 := by kernel_rfl
theorem zHsize : Tryz.zeroCells200.size = 138 := by kernel_rfl
def z64 : Array Value := #[.int .u8 0, .int .u8 0, .int .u8 0, .int .u8 0, .int .u8 0, .int .u8 0, .int .u8 0, .int .u8 0, .int .u8 0, .int .u8 0, .int .u8 0, .int .u8 0, .int .u8 0, .int .u8 0, .int .u8 0, .int .u8 0, .int .u8 0, .int .u8 0, .int .u8 0, .int .u8 0, .int .u8 0, .int .u8 0, .int .u8 0, .int .u8 0, .int .u8 0, .int .u8 0, .int .u8 0, .int .u8 0, .int .u8 0, .int .u8 0, .int .u8 0, .int .u8 0, .int .u8 0, .int .u8 0, .int .u8 0, .int .u8 0, .int .u8 0, .int .u8 0, .int .u8 0, .int .u8 0, .int .u8 0, .int .u8 0, .int .u8 0, .int .u8 0, .int .u8 0, .int .u8 0, .int .u8 0, .int .u8 0, .int .u8 0, .int .u8 0, .int .u8 0, .int .u8 0, .int .u8 0, .int .u8 0, .int .u8 0, .int .u8 0, .int .u8 0, .int .u8 0, .int .u8 0, .int .u8 0, .int .u8 0, .int .u8 0, .int .u8 0, .int .u8 0]
theorem zD : z64 = yC 64 (fun _ => 0) := by kernel_rfl
theorem wpList_build_c {P : Program} {ops : Array Oper} {rest : List Oper} {o : Oper} {a : Act} {w : World} {Q : Exit → Act → World → Prop} (hg : o.guard = none) (t : TypeId) (parts : Array (Nat × Operand)) (ho : o.op = .build t parts)
   (cells : Array Value) (hb : P.built t (parts.map fun (i, x) => (i, a.eval x)).toList = some cells) (h : wpList P ops Q rest (a.put o.dst (.agg cells)) w) : wpList P ops Q (o :: rest) a w :=
 wpList_build hg t parts ho (by rw [hb]; rfl) (by rw [hb]; exact h)
theorem builtH (s : Nat → Nat) : Tryz.prog.built 200 [(0, .agg (vC 8 s)), (3, .bool true)] = some (hC s (fun _ => 0) 0) := by kernel_rfl
theorem zR : Tryz.zeroCells240 = yC 144 (fun _ => 0) := by kernel_rfl
theorem begun_s (w : World) (hG : Gl w) : Calls Tryz.prog 95 #[] w fun e w' => e = .returned (.agg (hC IV (fun _ => 0) 0)) ∧ Chg w w' [] := by
 have hl := hG.lt
 have A := Blk.new w Tryz.zeroCells200 200
 have G1 := hG.chg ((Chg.refl w []).alloc (.cells Tryz.zeroCells200 200)) (by simp) (by simp)
 obtain ⟨t0, f0, t1, f1, e0, e1⟩ := G1
 go_enter Tryz.func95, Tryz.ntmps95
 go_wp2_with (first | (refine wpList_load_row rfl 189 _ rfl 1 rfl t1 _ f1 _ e1 Tryz.underlying189 rfl (by rw [vC_size]; exact S8Info) ?_) | (refine wpList_build_c rfl 200 #[(0, .tmp 1), (3, .const (.bool true))] rfl (hC IV (fun _ => 0) 0) (by go_simp; exact builtH IV) ?_) | (refine wpList_store_row rfl 200 _ _ rfl w.heap.size _ rfl rfl 200 _ A (by rw [hC_size]; exact HInfo) (by rw [hC_size]; exact zHsize) (hC_one _ _ _) ?_))
 exact bodyPost_ret (results_cell_row Tryz.results95 _ _ w.heap.size 200 (hC IV (fun _ => 0) 0) (0, 0) _ rfl (A.setRow _) Tryz.underlying200 rfl (by rw [hC_size]; exact HInfo)) rfl ⟨rfl, ((Chg.refl w []).alloc _).setRowNew (Nat.le_refl _) _⟩
theorem Write_nil (h n : Nat) (s t : Nat → Nat) (w : World) (hn : U n) (hh : Blk w h (hC s t n) 200) :
   Calls Tryz.prog 96 #[.pointer (some ⟨h, 0, none⟩), .slice none 0 0] w fun e w' => e = .returned (.tuple #[]) ∧ Chg w w' [h] ∧ Blk w' h (hC s t n) 200 := by
 unfold U at hn
 obtain ⟨r, hr⟩ : ∃ r, n % 128 = r := ⟨_, rfl⟩
 have hr1 : r < 128 := by omega
 have e1 : (n : Int).tmod 128 = (r : Int) := by rw [Int.tmod_eq_emod_of_nonneg (by omega)]; omega
 have e2 : IntKind.u64.wrap (n : Int) = (n : Int) := by rw [IntKind.wrap_u64]; omega
 clear hr
 have c1 := hh.cell 136
 have c2 := hh.cell 137
 rw [hC_taken] at c1
 rw [hC_made] at c2
 have f1' := hh.frozen 136
 have HB := (hh.setCell 136 (.int .u64 (n : Int))).to (hC_take s t n n)
 have CV := (Chg.refl w [h]).setIn (k := h) (by simp) 136 (.int .u64 (n : Int))
 have H8 : Hid (hC s t n = vC 8 s ++ (yC 128 t ++ #[.int .u64 n, .bool true])) := by show _ = _; unfold hC; rfl
 rw [H8.out] at HB
 go_enter Tryz.func96, Tryz.ntmps96
 by_cases hr0 : r = 0
 · subst hr0
   go_wp2_with fail
   go_loopw [1] (fun b wr => b = .slice none 0 0 ∧ Blk wr h (vC 8 s ++ (yC 128 t ++ #[.int .u64 n, .bool true])) 200 ∧ Chg w wr [h]) (fun _ _ => 0)
   case atStart => exact ⟨rfl, HB, CV⟩
   case round =>
     clear HB CV
     obtain ⟨rfl, HB, CV⟩ := hrel
     go_wp2_with (refine copy_y rfl (.tmp 69) (.tmp 70) 29 29 rfl 5 Tryz.underlying29 u8Info h 8 128 128 none 0 0 rfl rfl (vC 8 _) 128 t _ 200 HB 0 0 (fun _ => 0) (fun hx => absurd hx (by omega)) rfl (fun hx => absurd hx (by omega)) (by omega) ?_; rw [lay_zero]; intro v3 B3 k3)
     go_end0
     exact ⟨rfl, CV.trans1 k3, by rw [H8.out]; exact B3⟩
 · have hrI : (0 : Int) < (r : Int) := by omega
   have hrJ : (r : Int) ≤ 128 := by omega
   have hrK : (r : Int) < 128 := by omega
   have e4 : IntKind.i64.wrap (r : Int) = (r : Int) := by rw [IntKind.wrap_i64]; omega
   have e5 : IntKind.u64.wrap (r : Int) = (r : Int) := by rw [IntKind.wrap_u64]; omega
   go_wp2_with (refine copy_y rfl (.tmp 36) (.tmp 37) 29 29 rfl 5 Tryz.underlying29 u8Info h (8 + r) (128 - r) (128 - r) none 0 0 rfl rfl (vC 8 s) 128 t _ 200 HB 0 0 (fun _ => 0) (fun hx => absurd hx (by omega)) (Nat.zero_min _).symm (fun hx => absurd hx (by omega)) (by omega) ?_; rw [lay_zero]; intro v1 B1 k1)
   refine bodyPost_ret (results_none rfl _ _ _) rfl ?_
   exact ⟨rfl, CV.trans1 k1, by rw [H8.out]; exact B1⟩
end Go.Proofs.YtgjclegpnbjlkaaGreatDoor

set_option linter.all false
namespace Go.Proofs.YtgjclegpnbjlkaaGreatDoor
set_option maxHeartbeats 4000000
set_option maxRecDepth 100000
open Go.RowKit
def dig (s : Nat → Nat) : Nat → Nat := fun j => s (j / 8) / 256 ^ (7 - j % 8) % 256
def digt (s : Nat → Nat) (i : Nat) : Nat → Nat := fun j => if j < 8 * i then dig s j else 0
theorem digt_zero (s : Nat → Nat) : yC 64 (digt s 0) = yC 64 fun _ => 0 := yC_eq fun j _ => if_neg (by omega)
theorem digt_all (s : Nat → Nat) : yC 64 (digt s 8) = yC 64 (dig s) := yC_eq fun j hj => if_pos (by omega)
theorem digt_step (s : Nat → Nat) (i : Nat) : pw (digt s i) (8 * i) (s i) = digt s (i + 1) := by
 funext j
 unfold pw digt
 by_cases h : 8 * i ≤ j ∧ j < 8 * i + 8
 · rw [if_pos h, if_pos (by omega)]
   unfold dig
   rw [show j / 8 = i from by omega, show j - 8 * i = j % 8 from by omega]
 · rw [if_neg h]
   by_cases h2 : j < 8 * i
   · rw [if_pos h2, if_pos (by omega)]
   · rw [if_neg h2, if_neg (by omega)]
theorem pdf_lt (n j : Nat) : pdf n j < 256 := by
 unfold pdf pw up
 by_cases h : 9 + zr n ≤ j ∧ j < 9 + zr n + 8
 · rw [if_pos h]; exact Nat.mod_lt _ (by decide)
 · rw [if_neg h]
   by_cases h2 : j = 0
   · rw [if_pos h2]; decide
   · rw [if_neg h2]; exact Nat.zero_lt_succ _
def fin (s t : Nat → Nat) (n : Nat) : Nat → Nat := run KK s (cat t (n % 128) (pdf n)) ((n % 128 + (17 + zr n)) / 128)
theorem Sum_raw (h n : Nat) (s t : Nat → Nat) (w : World) (hG : Gl w) (hn : U n) (hs : ∀ i, i < 8 → U (s i)) (ht : ∀ j, j < 128 → t j < 256) (hh : Blk w h (hC s t n) 200) :
   Calls Tryz.prog 97 #[.pointer (some ⟨h, 0, none⟩)] w fun e w' => e = .returned (.agg (yC 64 (dig (fin s t n)))) ∧ Chg w w' [] := by
 obtain ⟨S, hS⟩ : ∃ S, fin s t n = S := ⟨_, rfl⟩
 have HS : Hid (fin s t n = S) := hS
 rw [hS]
 clear hS
 have hl := hG.lt
 have c1 := hh.cell 136
 have c2 := hh.cell 137
 rw [hC_taken] at c1
 rw [hC_made] at c2
 have hlt := hh.lt
 have K0 := (Chg.refl w []).alloc (.cells z64 143)
 have F0 := Blk.new w z64 143
 have FH := hh.alloc (.cells z64 143)
 have A1 : Blk ((w.alloc (.cells z64 143)).alloc (.cells Tryz.zeroCells200 200)) (w.heap.size + 1) Tryz.zeroCells200 200 := by
   have q := Blk.new (w.alloc (.cells z64 143)) Tryz.zeroCells200 200
   simpa using q
 have F2 : Blk ((((w.alloc (.cells z64 143)).alloc (.cells Tryz.zeroCells200 200)).setRow (w.heap.size + 1) (hC s t n)).alloc (.cells Tryz.zeroCells240 240)) (w.heap.size + 1 + 1) (yC 144 fun _ => 0) 240 := by
   have q := Blk.new (((w.alloc (.cells z64 143)).alloc (.cells Tryz.zeroCells200 200)).setRow (w.heap.size + 1) (hC s t n)) Tryz.zeroCells240 240
   rw [zR] at q ⊢
   simpa using q
 have F1 := (A1.setRow (hC s t n)).alloc (.cells Tryz.zeroCells240 240)
 replace F0 := ((F0.alloc (.cells Tryz.zeroCells200 200)).setRowOther (show w.heap.size ≠ w.heap.size + 1 by omega) (hC s t n)).alloc (.cells Tryz.zeroCells240 240)
 have KW := (((K0.alloc (.cells Tryz.zeroCells200 200)).setRowNew (show w.heap.size ≤ w.heap.size + 1 by omega) (hC s t n)).alloc (.cells Tryz.zeroCells240 240))
 have c3 := ((hh.chg KW (by simp)).cell 136).trans (hC_taken s t n)
 unfold z64 at c3
 go_enter Tryz.func97, Tryz.ntmps97
 go_wp2_with (first | (refine wpList_load_row rfl 200 _ rfl h rfl 200 _ (0, 0) _ FH Tryz.underlying200 rfl (by rw [hC_size]; exact HInfo) ?_) | (refine wpList_store_row rfl 200 _ _ rfl (w.heap.size + 1) _ rfl rfl 200 _ A1 (by rw [hC_size]; exact HInfo) (by rw [hC_size]; exact zHsize) (hC_one _ _ _) ?_))
 clear c3 c1 c2 A1 FH K0
 refine (fill_s (w.heap.size + 1 + 1) n _ hn F2).mono ?_
 rintro e v1 ⟨rfl, R1, k1⟩
 obtain ⟨m, hm⟩ : ∃ m, 17 + zr n = m := ⟨_, rfl⟩
 have hz : zr n < 128 := Nat.mod_lt _ (by decide)
 have hm1 : m ≤ 144 := by omega
 have HM : Hid (17 + zr n = m) := hm
 rw [hm]
 clear hm hz F2
 obtain ⟨y, hy⟩ : ∃ y, w.heap.size = y := ⟨_, rfl⟩
 have HY : Hid (w.heap.size = y) := hy
 rw [hy] at F0 F1 R1 k1 KW hl hlt
 rw [hy]
 clear hy
 replace F0 := F0.chg k1 (by simp; omega)
 replace F1 := F1.chg k1 (by simp)
 have KV : Chg w v1 [] := KW.trans k1 (fun i hi => by have := HY.out; simp at hi; omega)
 have BR : Bs v1 (y + 1 + 1) 0 m (pdf n) := ⟨R1.lt, fun i _ => pdf_lt n i, fun i hi => by rw [Nat.zero_add, R1.cell, yC_get _ _ _ (by omega)]⟩
 clear k1 KW R1
 have hI : (m : Int) ≤ 144 := by omega
 have e4 : IntKind.i64.wrap (m : Int) = (m : Int) := by rw [IntKind.wrap_i64]; omega
 go_wp2_with fail
 refine (Write_g (y + 1) (y + 1 + 1) 0 m 144 n KK s t (pdf n) v1 ((hG.chg KV (by simp) (by simp)).kc) hs ht hn hm1 (by omega) BR F1 (by omega) (by omega)).mono ?_
 rintro e v2 ⟨rfl, k2, t', _, _, B2⟩
 have HF : Hid (S = run KK s (cat t (n % 128) (pdf n)) ((n % 128 + m) / 128)) := by show S = _; rw [← HS.out]; unfold fin; rw [HM.out]
 rw [← HF.out] at B2
 have us : ∀ i, i < 8 → U (S i) := by rw [HF.out]; exact run_lt hs _
 replace F0 := F0.chg k2 (by simp)
 replace KV := KV.trans k2 (fun i hi => by have := HY.out; simp at hi; omega)
 have ylt := F0.lt
 have y1lt := B2.lt
 clear k2 BR F1 HF HM e4 hI
 generalize (n + m) % 18446744073709551616 = n2 at *
 have D0 : Blk (v2.alloc (.cells z64 143)) v2.heap.size (yC 64 (digt S 0)) 143 := (Blk.new v2 z64 143).to (by rw [digt_zero, zD])
 replace F0 := F0.alloc (.cells z64 143)
 replace B2 := B2.alloc (.cells z64 143)
 replace KV := KV.alloc (.cells z64 143)
 go_wp2_with fail
 change Code.wp _ _ _ _ (v2.alloc (.cells z64 143))
 generalize hv3 : v2.alloc (.cells z64 143) = v3 at *
 have dlt := D0.lt
 clear hv3
 go_loopw [27] (fun t wr => ∃ i : Nat, i ≤ 8 ∧ t = .int .i64 (i : Int) ∧ Blk wr v2.heap.size (yC 64 (digt S i)) 143 ∧ Chg v3 wr [v2.heap.size]) (fun t _ => (8 - intOf t).toNat)
 case atStart => exact ⟨0, by omega, rfl, D0, Chg.refl _ _⟩
 case round =>
   obtain ⟨i, hi, rfl, b0, c0⟩ := hrel
   by_cases h8 : i < 8
   · have hI : (i : Int) < 8 := by omega
     have hI2 : (8 : Int) * (i : Int) ≤ 64 := by omega
     have hI0 : (0 : Int) ≤ (8 : Int) * (i : Int) := by omega
     have hw8 : IntKind.i64.wrap (8 * (i : Int)) = 8 * (i : Int) := by rw [IntKind.wrap_i64]; omega
     have hn8 : (8 * (i : Int)).toNat = 8 * i := by omega
     have BF := B2.chg c0 (by simp; omega)
     have cf := BF.cell i
     unfold hC at cf
     rw [Array.getElem?_append_left (by rw [vC_size]; exact h8), vC_get _ _ _ h8] at cf
     go_wp2_with fail
     refine wp_region_held_drew (S := fun w' => Chg wr w' [v2.heap.size]) (by kernel_rfl) ((Chg.refl wr _).drew) (fun hHeld => ?_)
     refine tv ?_ 0 (some 30) rfl (fun w hSw => ?_) hHeld ?_; rotate_left; (· (go_simp; try with_reducible rfl)); try simp only [Act.put, sA]
     refine tv ?_ 1 (some 31) rfl (fun w hSw => ?_) hHeld ?_; rotate_left; (· (go_simp; try with_reducible rfl)); try simp only [Act.put, sA]
     refine tv (.slice (some ⟨v2.heap.size, 8 * i, none⟩) (64 - 8 * i) (64 - 8 * i)) 2 (some 32) rfl (fun w hSw => ?_) hHeld ?_
     · (go_simp; try omega)
     try simp only [Act.put, sA]
     refine tv ?_ 3 (some 33) rfl (fun w hSw => ?_) hHeld ?_; rotate_left; (· (go_simp; try with_reducible rfl)); try simp only [Act.put, sA]
     refine tv ?_ 4 (some 34) rfl (fun w hSw => ?_) hHeld ?_; rotate_left; (· (go_simp; try with_reducible rfl)); try simp only [Act.put, sA]
     refine tv ?_ 5 (some 35) rfl (fun w hSw => ?_) hHeld ?_; rotate_left; (· (go_simp; try with_reducible rfl)); try simp only [Act.put, sA]
     refine tv ?_ 6 (some 36) rfl (fun w hSw => ?_) hHeld ?_
     rotate_left
     · have cg := (BF.chg hSw (by simp; omega)).cell i
       unfold hC at cg
       rw [Array.getElem?_append_left (by rw [vC_size]; exact h8), vC_get _ _ _ h8] at cg
       (go_simp; try with_reducible rfl)
     try simp only [Act.put, sA]
     refine wpAnyH_ready (rs := [7]) (by kernel_rfl) (by simp) ?_
     refine AllReadyH.cons (o := _) rfl (fun K hK => ?_) ?_
     ·
       go_simp
       refine (putWord_s v2.heap.size (8 * i) (64 - 8 * i) (64 - 8 * i) 64 (digt S i) (S i) 143 _ (by omega) (us i h8) (by omega) b0.drew).mono ?_
       rintro e v4 ⟨rfl, b1, k4⟩
       rw [digt_step] at b1
       go_wp2_with fail
       refine hK.out _ _ (hHeld.trans1 k4) (fun hHeld => ?_)
       clear hK K
       try simp only [Act.put, sA]
       refine wpAnyH_done (by kernel_rfl) ?_ _
       have c1 := c0.trans1 hHeld
       go_wp2_with fail
       exact ⟨⟨i + 1, by omega, by go_num, b1, c1⟩, by simp [intOf]; omega⟩
     exact AllReadyH.nil
   · have h9 : i = 8 := by omega
     subst h9
     rw [digt_all] at b0
     replace F0 := F0.chg c0 (by simp; omega)
     replace KV := KV.trans c0 (fun i hi => by have := HY.out; simp at hi; omega)
     go_wp2_with (first | (refine wpList_load_row rfl 143 _ rfl v2.heap.size rfl 143 _ (0, 0) _ b0 Tryz.underlying143 rfl (by rw [yC_size]; exact DInfo) ?_) | (refine wpList_store_row rfl 143 _ _ rfl y _ rfl rfl 143 _ F0 (by rw [yC_size]; exact DInfo) (by rw [yC_size]; rfl) (yC_one _ _) ?_))
     exact bodyPost_ret (results_cell_row Tryz.results97 _ _ y 143 (yC 64 (dig S)) (0, 0) _ rfl (F0.setRow _) Tryz.underlying143 rfl (by rw [yC_size]; exact DInfo)) rfl ⟨rfl, KV.setRowNew (by have := HY.out; omega) _⟩
end Go.Proofs.YtgjclegpnbjlkaaGreatDoor

set_option linter.all false
namespace Go.Proofs.YtgjclegpnbjlkaaGreatDoor
set_option maxHeartbeats 4000000
set_option maxRecDepth 100000
open Go.RowKit
def Hs (w : World) (h : Nat) (f : Nat → Nat) (N : Nat) : Prop :=
 ∃ t, Blk w h (hC (run KK IV f (N / 128)) t N) 200 ∧ (∀ j, j < 128 → t j < 256) ∧ ∀ j, j < N % 128 → t j = f (128 * (N / 128) + j)
theorem Hs.chg {w w' : World} {h : Nat} {f : Nat → Nat} {N : Nat} {ch : List Nat} (H : Hs w h f N) (hc : Chg w w' ch) (ho : ¬ h ∈ ch) : Hs w' h f N := by
 obtain ⟨t, h1, h2, h3⟩ := H
 exact ⟨t, h1.chg hc ho, h2, h3⟩
theorem Hs.lt {w : World} {h : Nat} {f : Nat → Nat} {N : Nat} (H : Hs w h f N) : h < w.heap.size := by
 obtain ⟨t, h1, _⟩ := H
 exact h1.lt
theorem run_cat (k s f g t : Nat → Nat) (N m : Nat) (ht : ∀ j, j < N % 128 → t j = f (128 * (N / 128) + j)) :
   run k (run k s f (N / 128)) (cat t (N % 128) g) ((N % 128 + m) / 128) = run k s (cat f N g) ((N + m) / 128) := by
 have e : (N + m) / 128 = N / 128 + (N % 128 + m) / 128 := by omega
 rw [e, run_add]
 have e1 : run k s (cat f N g) (N / 128) = run k s f (N / 128) := run_congr _ fun i hi => by unfold cat; rw [if_pos (by omega)]
 rw [e1]
 refine run_congr _ fun i hi => ?_
 unfold cat
 by_cases h : i < N % 128
 · rw [if_pos h, if_pos (by omega), ht i h]
 · rw [if_neg h, if_neg (by omega)]
   congr 1
   omega
theorem Write_h (h N m : Nat) (f g : Nat → Nat) (v : Value) (w : World) (hG : Gl w) (H : Hs w h f N) (h2 : 3 ≤ h) (hv : Sl w v m g) (ho : Off v [h]) (hn : N + m < 18446744073709551616) :
   Calls Tryz.prog 96 #[.pointer (some ⟨h, 0, none⟩), v] w fun e w' => e = .returned (.tuple #[]) ∧ Chg w w' [h] ∧ Hs w' h (cat f N g) (N + m) := by
 obtain ⟨t, B, ht1, ht2⟩ := H
 rcases hv with ⟨rfl, rfl⟩ | ⟨gb, o, cap, rfl, h1, h3, hb⟩
 · refine (Write_nil h N _ t w (show U N by unfold U; omega) B).mono ?_
   rintro e w' ⟨rfl, k, B'⟩
   refine ⟨rfl, k, t, ?_, ht1, fun j hj => ?_⟩
   · refine B'.to (congrArg (fun q => hC q t N) (run_congr _ fun i hi => ?_))
     unfold cat
     rw [if_pos (by omega)]
   · rw [ht2 j hj]
     unfold cat
     rw [if_pos (by omega)]
     rfl
 · refine (Write_g h gb o m cap N KK _ t g w hG.kc (run_lt IV_lt _) ht1 (show U N by unfold U; omega) h1 h3 hb B (by omega) (fun e => ho gb o m cap rfl (by simp [e]))).mono ?_
   rintro e w' ⟨rfl, k, t', a1, a2, B'⟩
   refine ⟨rfl, k, t', ?_, a2, fun j hj => ?_⟩
   · rw [run_cat KK IV f g t N m ht2, Nat.mod_eq_of_lt hn] at B'
     exact B'
   · rw [a1 j (by omega)]
     unfold cat
     by_cases hh : 128 * ((N % 128 + m) / 128) + j < N % 128
     · rw [if_pos hh, if_pos (by omega), ht2 _ hh]
       congr 1
       omega
     · rw [if_neg hh, if_neg (by omega)]
       congr 1
       omega
def sha (f : Nat → Nat) (N : Nat) : Nat → Nat := dig (run KK IV (cat f N (pdf N)) ((N + (17 + zr N)) / 128))
theorem sha_congr {f g : Nat → Nat} {N : Nat} (h : ∀ i, i < N → f i = g i) : sha f N = sha g N := by
 unfold sha
 congr 1
 refine run_congr _ fun i hi => ?_
 unfold cat
 by_cases h1 : i < N
 · rw [if_pos h1, if_pos h1, h i h1]
 · rw [if_neg h1, if_neg h1]
theorem Sum_h (h N : Nat) (f : Nat → Nat) (w : World) (hG : Gl w) (H : Hs w h f N) (hn : N < 18446744073709551616) :
   Calls Tryz.prog 97 #[.pointer (some ⟨h, 0, none⟩)] w fun e w' => e = .returned (.agg (yC 64 (sha f N))) ∧ Chg w w' [] := by
 obtain ⟨t, B, ht1, ht2⟩ := H
 refine (Sum_raw h N _ t w hG hn (run_lt IV_lt _) ht1 B).mono ?_
 rintro e w' ⟨rfl, k⟩
 refine ⟨?_, k⟩
 unfold fin sha
 rw [run_cat KK IV f (pdf N) t N (17 + zr N) ht2]
theorem Sum_s (v : Value) (m : Nat) (f : Nat → Nat) (w : World) (hG : Gl w) (hv : Sl w v m f) (hm : m < 18446744073709551616) :
   Calls Tryz.prog 79 #[v] w fun e w' => e = .returned (.agg (yC 64 (sha f m))) ∧ Chg w w' [] := by
 have hl := hG.lt
 have K0 := (Chg.refl w []).alloc (.cells z64 143)
 have F0 := Blk.new w z64 143
 have szw : (w.alloc (.cells z64 143)).heap.size = w.heap.size + 1 := by simp
 go_enter Tryz.func79, Tryz.ntmps79
 go_wp2_with fail
 change Calls _ _ _ (w.alloc (.cells z64 143)) _
 refine (begun_s _ (hG.chg K0 (by simp) (by simp))).mono ?_
 rintro e v1 ⟨rfl, k1⟩
 have A := Blk.new v1 Tryz.zeroCells200 200
 replace F0 := F0.chg k1 (by simp)
 replace K0 := K0.trans1 k1
 have y1 := F0.lt
 clear k1
 go_wp2_with (refine wpList_store_row rfl 200 _ _ rfl v1.heap.size _ rfl rfl 200 _ A (by rw [hC_size]; exact HInfo) (by rw [hC_size]; exact zHsize) (hC_one _ _ _) ?_)
 replace A := A.setRow (hC IV (fun _ => 0) 0)
 have K1 : Chg v1 ((v1.alloc (.cells Tryz.zeroCells200 200)).setRow v1.heap.size (hC IV (fun _ => 0) 0)) [] := ((Chg.refl v1 []).alloc _).setRowNew (Nat.le_refl _) _
 replace F0 := F0.chg K1 (by simp)
 have hsz : v1.heap.size < ((v1.alloc (.cells Tryz.zeroCells200 200)).setRow v1.heap.size (hC IV (fun _ => 0) 0)).heap.size := A.lt
 have hk := K0.size
 replace K0 := K0.trans1 K1
 generalize (v1.alloc (.cells Tryz.zeroCells200 200)).setRow v1.heap.size (hC IV (fun _ => 0) 0) = v2 at *
 have H0 : Hs v2 v1.heap.size (fun _ => 0) 0 := ⟨fun _ => 0, A, fun _ _ => Nat.zero_lt_succ _, fun j hj => absurd hj (Nat.not_lt_zero _)⟩
 generalize v1.heap.size = y at *
 clear K1 A
 refine (Write_h y 0 m (fun _ => 0) f v v2 (hG.chg K0 (by simp) (by simp)) H0 (by omega) (hv.chg K0 (Off.nil v)) (hv.new [y] (by simp; omega)) (by omega)).mono ?_
 rintro e v3 ⟨rfl, k3, H3⟩
 rw [cat_zero, Nat.zero_add] at H3
 replace F0 := F0.chg k3 (by simp; omega)
 replace K0 := K0.trans k3 (by simp; omega)
 go_wp2_with fail
 refine (Sum_h y m f v3 (hG.chg K0 (by simp) (by simp)) H3 hm).mono ?_
 rintro e v4 ⟨rfl, k4⟩
 replace F0 := F0.chg k4 (by simp)
 replace K0 := K0.trans1 k4
 go_wp2_with (refine wpList_store_row rfl 143 _ _ rfl w.heap.size _ rfl rfl 143 _ F0 (by rw [yC_size]; exact DInfo) (by rw [yC_size]; rfl) (yC_one _ _) ?_)
 exact bodyPost_ret (results_cell_row Tryz.results79 _ _ w.heap.size 143 (yC 64 (sha f m)) (0, 0) _ rfl (F0.setRow _) Tryz.underlying143 rfl (by rw [yC_size]; exact DInfo)) rfl ⟨rfl, K0.setRowNew (Nat.le_refl _) _⟩
end Go.Proofs.YtgjclegpnbjlkaaGreatDoor
