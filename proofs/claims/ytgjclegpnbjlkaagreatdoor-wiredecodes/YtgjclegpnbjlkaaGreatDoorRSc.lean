import Derived.Test.YtgjclegpnbjlkaaGreatDoorMwO
set_option linter.all false
namespace Go.Proofs.YtgjclegpnbjlkaaGreatDoor
set_option maxHeartbeats 16000000
set_option maxRecDepth 100000
open Go.RowKit
def wp (b : Nat → Nat) : Nat → Nat
 | 0 => 0
 | j + 1 => wp b j * 256 + b j
theorem wp_lt (b : Nat → Nat) (h : ∀ j, j < 8 → b j < 256) : ∀ j, j ≤ 8 → wp b j < 256 ^ j
 | 0, _ => Nat.zero_lt_succ _
 | j + 1, hj => by
   have h1 := wp_lt b h j (by omega)
   have h2 := h j (by omega)
   show wp b j * 256 + b j < 256 ^ (j + 1)
   rw [Nat.pow_succ]
   omega
theorem wp_succ (b : Nat → Nat) (j : Nat) : wp b (j + 1) = wp b j * 256 + b j := rfl
theorem wp_8 (b : Nat → Nat) : wp b 8 = wd b := by
 unfold wd
 simp only [wp]
 omega
theorem or_byte (X y j : Nat) (hX : X < 256 ^ j) (hj : j < 8) (hy : y < 256) : bits .or .u64 ((X * 256 : Nat) : Int) ((y : Nat) : Int) = ((X * 256 + y : Nat) : Int) ∧ X * 256 < 18446744073709551616 := by
 have h7 : 256 ^ j ≤ 256 ^ 7 := Nat.pow_le_pow_right (by decide) (by omega)
 refine ⟨?_, by omega⟩
 rw [u64_or_nat (X * 256) y (by omega) (by omega), nat_join 8 (X * 256) y (by omega) (by omega)]
theorem up_zero (u : Nat → Nat) (i : Nat) : vC 80 (up (swt u i) i 0) = vC 80 (swt u i) := vC_eq fun j _ => by
 unfold up swt
 by_cases h : j = i
 · subst h; rw [if_pos rfl, if_neg (by omega)]
 · rw [if_neg h]
theorem up_up (f : Nat → Nat) (i x y : Nat) : up (up f i x) i y = up f i y := by
 funext j
 unfold up
 split <;> rfl
def adf (f s : Nat → Nat) (i : Nat) : Nat → Nat := fun j => if j < i then (f j + s j) % 18446744073709551616 else f j
theorem adf_at (f s : Nat → Nat) (i : Nat) : adf f s i i = f i := if_neg (by omega)
theorem adf_step (f s : Nat → Nat) (i : Nat) : up (adf f s i) i ((f i + s i) % 18446744073709551616) = adf f s (i + 1) := by
 funext j; unfold up adf
 by_cases h : j = i
 · subst h; rw [if_pos rfl, if_pos (by omega)]
 · rw [if_neg h]
   by_cases h2 : j < i
   · rw [if_pos h2, if_pos (by omega)]
   · rw [if_neg h2, if_neg (by omega)]
theorem builtV (a b c d e f g h : Nat) : Tryz.prog.built 189 [(0, .int .u64 a), (1, .int .u64 b), (2, .int .u64 c), (3, .int .u64 d), (4, .int .u64 e), (5, .int .u64 f), (6, .int .u64 g), (7, .int .u64 h)] = some (vC 8 (R8.at ⟨a, b, c, d, e, f, g, h⟩)) := by kernel_rfl
theorem r8_at (s : Nat → Nat) : vC 8 (r8 s).at = vC 8 s := vC_eq fun j hj => by
 have h : j = 0 ∨ j = 1 ∨ j = 2 ∨ j = 3 ∨ j = 4 ∨ j = 5 ∨ j = 6 ∨ j = 7 := by omega
 rcases h with rfl | rfl | rfl | rfl | rfl | rfl | rfl | rfl <;> rfl
theorem block_r (s u : Nat → Nat) (g o c : Nat) (w : World) (hs : ∀ i, i < 8 → U (s i)) (hc : 128 ≤ c) (hb : Bs w g o 128 u) :
   Calls Tryz.prog 88 #[.agg (vC 8 s), .slice (some ⟨g, o, none⟩) 128 c] w fun e w' => e = .returned (.agg (vC 8 (cmp KK s u))) ∧ Chg w w' [] := by
 have hbd := hb.bd
 have F0 : Blk ((w.alloc (.cells (vC 8 s) 189)).alloc (.cells z8 189)) w.heap.size (vC 8 s) 189 := (Blk.new w (vC 8 s) 189).alloc _
 have F1 : Blk ((w.alloc (.cells (vC 8 s) 189)).alloc (.cells z8 189)) (w.heap.size + 1) z8 189 := by have q := Blk.new (w.alloc (.cells (vC 8 s) 189)) z8 189; simpa using q
 have CC : Chg w ((w.alloc (.cells (vC 8 s) 189)).alloc (.cells z8 189)) [] := ((Chg.refl w []).alloc _).alloc _
 replace hb := hb.chg CC (by simp)
 go_enter Tryz.func88, Tryz.ntmps88
 go_wp2_with fail
 refine (Constants_r _).mono ?_
 rintro e v1 ⟨rfl, k⟩
 replace F0 := F0.chg k (by simp)
 replace F1 := F1.chg k (by simp)
 replace hb := hb.chg k (by simp)
 replace CC := CC.trans1 k
 clear k
 have A := Blk.new v1 Tryz.zeroCells221 221
 have sz : Tryz.zeroCells221.size = 80 := by kernel_rfl
 have KX : Chg v1 (((v1.alloc (.cells Tryz.zeroCells221 221)).setRow v1.heap.size (vC 80 KK)).alloc (.cells Tryz.zeroCells221 221)) [] := (((Chg.refl v1 []).alloc (.cells Tryz.zeroCells221 221)).setRowNew (Nat.le_refl _) _).alloc (.cells Tryz.zeroCells221 221)
 have KB : Blk (((v1.alloc (.cells Tryz.zeroCells221 221)).setRow v1.heap.size (vC 80 KK)).alloc (.cells Tryz.zeroCells221 221)) v1.heap.size (vC 80 KK) 221 := (A.setRow (vC 80 KK)).alloc (.cells Tryz.zeroCells221 221)
 have WB : Blk (((v1.alloc (.cells Tryz.zeroCells221 221)).setRow v1.heap.size (vC 80 KK)).alloc (.cells Tryz.zeroCells221 221)) (v1.heap.size + 1) (vC 80 (swt u 0)) 221 := by
   rw [swt_zero, ← zero80]
   have q := Blk.new ((v1.alloc (.cells Tryz.zeroCells221 221)).setRow v1.heap.size (vC 80 KK)) Tryz.zeroCells221 221
   simpa using q
 have hl0 : w.heap.size + 1 < v1.heap.size := F1.lt
 have hl1 : g < v1.heap.size := hb.lt
 replace F0 := F0.chg KX (by simp)
 replace F1 := F1.chg KX (by simp)
 replace hb := hb.chg KX (by simp)
 replace CC := CC.trans1 KX
 clear KX
 go_wp2_with (refine wpList_store_row rfl 221 _ _ rfl v1.heap.size (vC 80 KK) rfl rfl 221 _ A (by rw [vC_size]; exact W80Info) (by rw [vC_size]; exact sz) (vC_one _ _) ?_)
 clear A
 change Code.wp _ _ _ _ (((v1.alloc (.cells Tryz.zeroCells221 221)).setRow v1.heap.size (vC 80 KK)).alloc (.cells Tryz.zeroCells221 221))
 generalize (((v1.alloc (.cells Tryz.zeroCells221 221)).setRow v1.heap.size (vC 80 KK)).alloc (.cells Tryz.zeroCells221 221)) = v2 at *
 generalize v1.heap.size = kb at *
 go_loopw [7] (fun t wr => ∃ i : Nat, i ≤ 16 ∧ t = .int .i64 (i : Int) ∧ Blk wr (kb + 1) (vC 80 (swt u i)) 221 ∧ Chg v2 wr [kb + 1]) (fun t _ => (16 - intOf t).toNat)
 case atStart => exact ⟨0, by omega, rfl, WB, Chg.refl _ _⟩
 case round =>
   obtain ⟨i, hi, rfl, b0, c0⟩ := hrel
   clear WB
   by_cases h16 : i < 16
   · have hI : (i : Int) < 16 := by omega
     have hI80 : (i : Int) < 80 := by omega
     go_wp2_with fail
     rw [← up_zero] at b0
     go_loopw [8] (fun t wr => ∃ j : Nat, j ≤ 8 ∧ t = .int .i64 (j : Int) ∧ Blk wr (kb + 1) (vC 80 (up (swt u i) i (wp (fun q => u (8 * i + q)) j))) 221 ∧ Chg v2 wr [kb + 1]) (fun t _ => (8 - intOf t).toNat)
     case atStart => exact ⟨0, by omega, rfl, by have e : wp (fun q => u (8 * i + q)) 0 = 0 := (by unfold wp; rfl); rw [e]; exact b0, c0⟩
     case round =>
       clear b0 c0
       obtain ⟨j, hj, rfl, b0, c0⟩ := hrel
       by_cases h8 : j < 8
       · have hJ : (j : Int) < 8 := by omega
         obtain ⟨m, hm⟩ : ∃ m, 8 * i + j = m := ⟨_, rfl⟩
         have hm1 : m < 128 := by omega
         have hmI : (m : Int) < 128 := by omega
         have w1 : IntKind.i64.wrap (8 * (i : Int)) = 8 * (i : Int) := by rw [IntKind.wrap_i64]; omega
         have w2 : IntKind.i64.wrap (8 * (i : Int) + (j : Int)) = (m : Int) := by rw [IntKind.wrap_i64]; omega
         have e1 : IntKind.i64.wrap ((j : Int) + 1) = (j : Int) + 1 := by rw [IntKind.wrap_i64]; omega
         have lX := wp_lt (fun q => u (8 * i + q)) (fun q hq => hbd _ (by omega)) j hj
         have eX : wp (fun q => u (8 * i + q)) (j + 1) = wp (fun q => u (8 * i + q)) j * 256 + u (8 * i + j) := wp_succ _ j
         obtain ⟨y, hy⟩ : ∃ y, u m = y := ⟨_, rfl⟩
         rw [hm, hy] at eX
         obtain ⟨x, hx⟩ : ∃ x, wp (fun q => u (8 * i + q)) j = x := ⟨_, rfl⟩
         rw [hx] at b0 lX eX
         obtain ⟨x', hx'⟩ : ∃ z, x * 256 + y = z := ⟨_, rfl⟩
         have ly : y < 256 := by rw [← hy]; exact hbd m hm1
         obtain ⟨ho, hlt⟩ := or_byte x y j lX h8 ly
         rw [hx'] at ho eX
         obtain ⟨z, hz⟩ : ∃ z, x * 256 = z := ⟨_, rfl⟩
         rw [hz] at ho hlt
         have hwz : IntKind.u64.wrap ((x : Int) * 256) = (z : Int) := by rw [IntKind.wrap_u64]; omega
         have hwy : IntKind.u64.wrap (y : Int) = (y : Int) := by rw [IntKind.wrap_u64]; omega
         have ck := (b0.cell i).trans ((vC_get 80 _ i (by omega)).trans (by rw [show up (swt u i) i x i = x from if_pos rfl]))
         have fk := b0.frozen i
         have cb := ((hb.chg c0 (by simp; omega)).cell m hm1).trans (by rw [hy])
         have b1 := ((b0.setCell i (.int .u64 (x' : Int))).to (by rw [vC_set, up_up])).drew
         have c1 := (c0.setIn (k := kb + 1) (by simp) i (.int .u64 (x' : Int))).drew
         have HEX : Hid (wp (fun q => u (8 * i + q)) (j + 1) = x') := eX
         clear eX hx hx' hy lX hm b0 c0 hz hlt ly
         go_wp2_with fail
         go_region
         go_wp2_with fail
         exact ⟨⟨j + 1, by omega, by go_num, by rw [HEX.out]; exact b1, c1⟩, by simp [intOf]; omega⟩
       · have hJ : ¬ (j : Int) < 8 := by omega
         have HJ8 : Hid (j = 8) := by show j = 8; omega
         have e1 : IntKind.i64.wrap ((i : Int) + 1) = (i : Int) + 1 := by rw [IntKind.wrap_i64]; omega
         have b1 : Blk wr (kb + 1) (vC 80 (swt u (i + 1))) 221 := b0.to (by rw [HJ8.out, wp_8, ← sw_lo u i h16, swt_step])
         clear h8 hj
         go_wp2_with fail
         exact ⟨⟨i + 1, by omega, by go_num, b1, c0⟩, by simp [intOf]; omega⟩
   · have hI : ¬ (i : Int) < 16 := by omega
     have HI16 : Hid (i = 16) := by show i = 16; omega
     have b16 : Blk wr (kb + 1) (vC 80 (swt u 16)) 221 := by have e := HI16.out; rw [e] at b0; exact b0
     clear hi h16 b0
     go_wp2_with fail
     go_loopw [9] (fun t wr => ∃ i : Nat, 16 ≤ i ∧ i ≤ 80 ∧ t = .int .i64 (i : Int) ∧ Blk wr (kb + 1) (vC 80 (swt u i)) 221 ∧ Chg v2 wr [kb + 1]) (fun t _ => (80 - intOf t).toNat)
     case atStart => exact ⟨16, by omega, by omega, rfl, b16, c0⟩
     case round =>
       clear b16 c0 HI16 hI
       obtain ⟨i, hj, hi, rfl, b0, c0⟩ := hrel
       by_cases h8 : i < 80
       · have hI : (i : Int) < 80 := by omega
         have L16 := swt_at u i (i - 16) (by omega)
         have L15 := swt_at u i (i - 15) (by omega)
         have L7 := swt_at u i (i - 7) (by omega)
         have L2 := swt_at u i (i - 2) (by omega)
         obtain ⟨x16, hx16⟩ : ∃ x, sw u (i - 16) = x := ⟨_, rfl⟩
         obtain ⟨x15, hx15⟩ : ∃ x, sw u (i - 15) = x := ⟨_, rfl⟩
         obtain ⟨x7, hx7⟩ : ∃ x, sw u (i - 7) = x := ⟨_, rfl⟩
         obtain ⟨x2, hx2⟩ : ∃ x, sw u (i - 2) = x := ⟨_, rfl⟩
         have l16 : U x16 := hx16 ▸ sw_lt hbd (i - 16)
         have l15 : U x15 := hx15 ▸ sw_lt hbd (i - 15)
         have l7 : U x7 := hx7 ▸ sw_lt hbd (i - 7)
         have l2 : U x2 := hx2 ▸ sw_lt hbd (i - 2)
         have HV : Hid (sw u i = (x16 + sg0 x15 + x7 + sg1 x2) % 18446744073709551616) := by show sw u i = _; rw [sw_hi u i (by omega), hx16, hx15, hx7, hx2]
         have e16 : (i : Int) - 16 = ((i - 16 : Nat) : Int) := by omega
         have e15 : (i : Int) - 15 = ((i - 15 : Nat) : Int) := by omega
         have e7 : (i : Int) - 7 = ((i - 7 : Nat) : Int) := by omega
         have e2 : (i : Int) - 2 = ((i - 2 : Nat) : Int) := by omega
         have c16 := (b0.cell (i - 16)).trans ((vC_get 80 _ (i - 16) (by omega)).trans (by rw [L16, hx16]))
         have c15 := (b0.cell (i - 15)).trans ((vC_get 80 _ (i - 15) (by omega)).trans (by rw [L15, hx15]))
         have c7 := (b0.cell (i - 7)).trans ((vC_get 80 _ (i - 7) (by omega)).trans (by rw [L7, hx7]))
         have c2 := (b0.cell (i - 2)).trans ((vC_get 80 _ (i - 2) (by omega)).trans (by rw [L2, hx2]))
         have ck := (b0.cell i).trans (vC_get 80 _ i (by omega))
         have fk := b0.frozen i
         clear L16 L15 L7 L2 hx16 hx15 hx7 hx2
         obtain ⟨j16, hj16⟩ : ∃ x, i - 16 = x := ⟨_, rfl⟩
         obtain ⟨j15, hj15⟩ : ∃ x, i - 15 = x := ⟨_, rfl⟩
         obtain ⟨j7, hj7⟩ : ∃ x, i - 7 = x := ⟨_, rfl⟩
         obtain ⟨j2, hj2⟩ : ∃ x, i - 2 = x := ⟨_, rfl⟩
         rw [hj16] at c16 e16; rw [hj15] at c15 e15; rw [hj7] at c7 e7; rw [hj2] at c2 e2
         have l16i : j16 < i := by omega
         have l7i : j7 < i := by omega
         have w16 : IntKind.i64.wrap (j16 : Int) = (j16 : Int) := by rw [IntKind.wrap_i64]; omega
         have w7 : IntKind.i64.wrap (j7 : Int) = (j7 : Int) := by rw [IntKind.wrap_i64]; omega
         have b16 : (j16 : Int) < 80 := by omega
         have b15 : (j15 : Int) < 80 := by omega
         have b7 : (j7 : Int) < 80 := by omega
         have b2 : (j2 : Int) < 80 := by omega
         clear hj16 hj15 hj7 hj2
         have r1 := rr_lt 1 l15; have r8 := rr_lt 8 l15; have r19 := rr_lt 19 l2; have r61 := rr_lt 61 l2
         have s7 : (x15 : Int) / (128 : Int) = ((x15 >>> 7 : Nat) : Int) := by rw [Nat.shiftRight_eq_div_pow]; omega
         have s6 : (x2 : Int) / (64 : Int) = ((x2 >>> 6 : Nat) : Int) := by rw [Nat.shiftRight_eq_div_pow]; omega
         have q7 := shr_lt 7 l15; have q6 := shr_lt 6 l2
         have o1 : bits .xor .u64 ((rr 1 x15 : Nat) : Int) ((rr 8 x15 : Nat) : Int) = ((rr 1 x15 ^^^ rr 8 x15 : Nat) : Int) := u64_xor_nat _ _ r1 r8
         have o2 : bits .xor .u64 ((rr 1 x15 ^^^ rr 8 x15 : Nat) : Int) ((x15 : Int) / 128) = ((sg0 x15 : Nat) : Int) := by rw [s7]; exact u64_xor_nat _ _ (xor_lt r1 r8) q7
         have o3 : bits .xor .u64 ((rr 19 x2 : Nat) : Int) ((rr 61 x2 : Nat) : Int) = ((rr 19 x2 ^^^ rr 61 x2 : Nat) : Int) := u64_xor_nat _ _ r19 r61
         have o4 : bits .xor .u64 ((rr 19 x2 ^^^ rr 61 x2 : Nat) : Int) ((x2 : Int) / 64) = ((sg1 x2 : Nat) : Int) := by rw [s6]; exact u64_xor_nat _ _ (xor_lt r19 r61) q6
         have k0 := sg0_lt l15; have k1 := sg1_lt l2
         clear s7 s6 q7 q6 r1 r8 r19 r61
         obtain ⟨g0, hg0⟩ : ∃ x, sg0 x15 = x := ⟨_, rfl⟩
         obtain ⟨g1, hg1⟩ : ∃ x, sg1 x2 = x := ⟨_, rfl⟩
         rw [hg0] at o2 k0 HV; rw [hg1] at o4 k1 HV
         obtain ⟨y1, hy1⟩ : ∃ x, (x16 + g0) % 18446744073709551616 = x := ⟨_, rfl⟩
         obtain ⟨y2, hy2⟩ : ∃ x, (y1 + x7) % 18446744073709551616 = x := ⟨_, rfl⟩
         obtain ⟨y3, hy3⟩ : ∃ x, sw u i = x := ⟨_, rfl⟩
         have a1 : IntKind.u64.wrap ((x16 : Int) + (g0 : Int)) = (y1 : Int) := by rw [IntKind.wrap_u64]; omega
         have a2 : IntKind.u64.wrap ((y1 : Int) + (x7 : Int)) = (y2 : Int) := by rw [IntKind.wrap_u64]; omega
         have a3 : IntKind.u64.wrap ((y2 : Int) + (g1 : Int)) = (y3 : Int) := by have h := HV.out; rw [IntKind.wrap_u64]; omega
         have KSL : Hid (∀ j, j < i → (wr.drew.setCell ⟨kb + 1, i, none⟩ (.int .u64 (y3 : Int))).cell? ⟨kb + 1, j, none⟩ = wr.cell? ⟨kb + 1, j, none⟩) := fun j hj => by rw [(b0.drew.setCell i _).cell j, b0.cell j, Array.getElem?_setIfInBounds_ne (by omega)]
         have b1 := (b0.drew.setCell i (.int .u64 (y3 : Int))).to (by rw [vC_set, ← hy3, swt_step])
         clear hy1 hy2 hy3 hg0 hg1 HV l16 l7 k0 k1 ck fk
         go_wp2_with fail
         refine wp_region_held_drew (S := fun w' => ∀ j, j < i → w'.cell? ⟨kb + 1, j, none⟩ = wr.cell? ⟨kb + 1, j, none⟩) (by kernel_rfl) (fun j _ => rfl) (fun hHeld => ?_)
         refine tv ?_ 0 (some 55) rfl (fun w hSw => ?_) hHeld ?_; rotate_left; (· (go_simp; try with_reducible rfl)); try simp only [Act.put, sA]
         refine tv ?_ 1 (some 56) rfl (fun w hSw => ?_) hHeld ?_; rotate_left; (· (go_simp; try with_reducible rfl)); try simp only [Act.put, sA]
         refine tv (.int .i64 (j16 : Int)) 2 (some 57) rfl (fun w hSw => ?_) hHeld ?_
         · (go_simp; try with_reducible rfl)
         try simp only [Act.put, sA]
         refine tv ?_ 3 (some 58) rfl (fun w hSw => ?_) hHeld ?_; rotate_left; (· (go_simp; try with_reducible rfl)); try simp only [Act.put, sA]
         refine tv (.int .u64 (x16 : Int)) 4 (some 59) rfl (fun w hSw => ?_) hHeld ?_
         · have cc := (hSw j16 l16i).trans c16
           (go_simp; try with_reducible rfl)
         try simp only [Act.put, sA]
         refine tv ?_ 5 (some 60) rfl (fun w hSw => ?_) hHeld ?_; rotate_left; (· (go_simp; try with_reducible rfl)); try simp only [Act.put, sA]
         refine tv ?_ 7 (some 62) rfl (fun w hSw => ?_) hHeld ?_; rotate_left; (· (go_simp; try with_reducible rfl)); try simp only [Act.put, sA]
         refine tv ?_ 10 (some 65) rfl (fun w hSw => ?_) hHeld ?_; rotate_left; (· (go_simp; try with_reducible rfl)); try simp only [Act.put, sA]
         refine tv ?_ 11 (some 66) rfl (fun w hSw => ?_) hHeld ?_; rotate_left; (· (go_simp; try with_reducible rfl)); try simp only [Act.put, sA]
         refine tv ?_ 14 (some 69) rfl (fun w hSw => ?_) hHeld ?_; rotate_left; (· (go_simp; try with_reducible rfl)); try simp only [Act.put, sA]
         refine tv (.int .i64 (j7 : Int)) 15 (some 70) rfl (fun w hSw => ?_) hHeld ?_
         · (go_simp; try with_reducible rfl)
         try simp only [Act.put, sA]
         refine tv ?_ 16 (some 71) rfl (fun w hSw => ?_) hHeld ?_; rotate_left; (· (go_simp; try with_reducible rfl)); try simp only [Act.put, sA]
         refine tv (.int .u64 (x7 : Int)) 17 (some 72) rfl (fun w hSw => ?_) hHeld ?_
         · have cc := (hSw j7 l7i).trans c7
           (go_simp; try with_reducible rfl)
         try simp only [Act.put, sA]
         refine tv ?_ 19 (some 74) rfl (fun w hSw => ?_) hHeld ?_; rotate_left; (· (go_simp; try with_reducible rfl)); try simp only [Act.put, sA]
         refine tv ?_ 21 (some 76) rfl (fun w hSw => ?_) hHeld ?_; rotate_left; (· (go_simp; try with_reducible rfl)); try simp only [Act.put, sA]
         refine tv ?_ 24 (some 79) rfl (fun w hSw => ?_) hHeld ?_; rotate_left; (· (go_simp; try with_reducible rfl)); try simp only [Act.put, sA]
         refine tv ?_ 25 (some 80) rfl (fun w hSw => ?_) hHeld ?_; rotate_left; (· (go_simp; try with_reducible rfl)); try simp only [Act.put, sA]
         refine wpAnyH_ready (rs := [6]) (by kernel_rfl) (by simp) ?_
         refine AllReadyH.cons (o := _) rfl (fun K hK => ?_) ?_
         ·
           go_simp
           refine (rror_1 x15 l15 _).mono ?_
           rintro e q6 ⟨rfl, rfl⟩
           go_wp2_with fail
           refine hK.out _ _ (hHeld) (fun hHeld => ?_)
           clear hK K
           try simp only [Act.put, sA]
           refine wpAnyH_ready (rs := [8]) (by kernel_rfl) (by simp) ?_
           refine AllReadyH.cons (o := _) rfl (fun K hK => ?_) ?_
           ·
             go_simp
             refine (rror_8 x15 l15 _).mono ?_
             rintro e q8 ⟨rfl, rfl⟩
             go_wp2_with fail
             refine hK.out _ _ (hHeld) (fun hHeld => ?_)
             clear hK K
             try simp only [Act.put, sA]
             refine tv (.int .u64 ((rr 1 x15 ^^^ rr 8 x15 : Nat) : Int)) 9 (some 64) rfl (fun w hSw => ?_) hHeld ?_
             · (go_simp; try with_reducible rfl)
             try simp only [Act.put, sA]
             refine tv (.int .u64 (g0 : Int)) 12 (some 67) rfl (fun w hSw => ?_) hHeld ?_
             · (go_simp; try with_reducible rfl)
             try simp only [Act.put, sA]
             refine tv (.int .u64 (y1 : Int)) 13 (some 68) rfl (fun w hSw => ?_) hHeld ?_
             · (go_simp; try with_reducible rfl)
             try simp only [Act.put, sA]
             refine tv (.int .u64 (y2 : Int)) 18 (some 73) rfl (fun w hSw => ?_) hHeld ?_
             · (go_simp; try with_reducible rfl)
             try simp only [Act.put, sA]
             refine wpAnyH_ready (rs := [20]) (by kernel_rfl) (by simp) ?_
             refine AllReadyH.cons (o := _) rfl (fun K hK => ?_) ?_
             ·
               go_simp
               refine (rror_19 x2 l2 _).mono ?_
               rintro e q20 ⟨rfl, rfl⟩
               go_wp2_with fail
               refine hK.out _ _ (hHeld) (fun hHeld => ?_)
               clear hK K
               try simp only [Act.put, sA]
               refine wpAnyH_ready (rs := [22]) (by kernel_rfl) (by simp) ?_
               refine AllReadyH.cons (o := _) rfl (fun K hK => ?_) ?_
               ·
                 go_simp
                 refine (rror_61 x2 l2 _).mono ?_
                 rintro e q22 ⟨rfl, rfl⟩
                 go_wp2_with fail
                 refine hK.out _ _ (hHeld) (fun hHeld => ?_)
                 clear hK K
                 try simp only [Act.put, sA]
                 refine tv (.int .u64 ((rr 19 x2 ^^^ rr 61 x2 : Nat) : Int)) 23 (some 78) rfl (fun w hSw => ?_) hHeld ?_
                 · (go_simp; try with_reducible rfl)
                 try simp only [Act.put, sA]
                 refine tv (.int .u64 (g1 : Int)) 26 (some 81) rfl (fun w hSw => ?_) hHeld ?_
                 · (go_simp; try with_reducible rfl)
                 try simp only [Act.put, sA]
                 refine tv (.int .u64 (y3 : Int)) 27 (some 82) rfl (fun w hSw => ?_) hHeld ?_
                 · (go_simp; try with_reducible rfl)
                 try simp only [Act.put, sA]
                 refine tv ?_ 28 (some 83) rfl (fun w hSw => ?_) hHeld ?_; rotate_left; (· (go_simp; try with_reducible rfl)); try simp only [Act.put, sA]
                 refine wpAnyH_ready (rs := [29]) (by kernel_rfl) (by simp) ?_
                 refine AllReadyH.cons (o := _) rfl (fun K hK => ?_) ?_
                 ·
                   have bd := b0.drew
                   have ck := bd.cell i
                   have fk := bd.frozen i
                   rw [vC_get 80 _ i (by omega)] at ck
                   have hKS : ∀ j, j < i → (wr.drew.setCell ⟨kb + 1, i, none⟩ (.int .u64 (y3 : Int))).cell? ⟨kb + 1, j, none⟩ = wr.cell? ⟨kb + 1, j, none⟩ := fun j hj => KSL.out j hj
                   rw [if_pos (by rfl)]
                   go_simp
                   refine hK.out _ _ (hKS) (fun hHeld => ?_)
                   clear hK K
                   try simp only [Act.put, sA]
                   refine wpAnyH_done (by kernel_rfl) ?_ _
                   have c1 := c0.drew.setIn (k := kb + 1) (by simp) i (.int .u64 (y3 : Int))
                   go_wp2_with fail
                   exact ⟨⟨i + 1, by omega, by omega, by go_num, b1, c1⟩, by simp [intOf]; omega⟩
                 exact AllReadyH.nil
               exact AllReadyH.nil
             exact AllReadyH.nil
           exact AllReadyH.nil
         exact AllReadyH.nil
       · have hI : ¬ (i : Int) < 80 := by omega
         have HI80 : Hid (i = 80) := by show i = 80; omega
         have WB : Blk wr (kb + 1) (vC 80 (sw u)) 221 := by have e := HI80.out; rw [e, swt_all] at b0; exact b0
         clear hi hj h8 b0
         have F0' := F0.chg c0 (by simp; omega)
         have F1' := F1.chg c0 (by simp; omega)
         have KB' := KB.chg c0 (by simp)
         have CC' := CC.new c0 (by omega)
         clear F0 F1 KB CC c0 hb HI80
         have VB := Blk.new wr z8 189
         have KX : Chg wr ((wr.alloc (.cells z8 189)).setRow wr.heap.size (vC 8 s)) [] := ((Chg.refl wr []).alloc (.cells z8 189)).setRowNew (Nat.le_refl _) _
         have hv1 : w.heap.size + 1 < wr.heap.size := F1'.lt
         have hv2 : kb + 1 < wr.heap.size := WB.lt
         have G0 := F0'.chg KX (by simp)
         have G1 := F1'.chg KX (by simp)
         have GK := KB'.chg KX (by simp)
         have GW := WB.chg KX (by simp)
         have GC := CC'.trans1 KX
         clear KX KB' WB F1' CC'
         go_wp2_with (first | (refine wpList_load_row rfl 189 _ rfl w.heap.size rfl 189 _ (0, 0) _ F0' Tryz.underlying189 rfl (by rw [vC_size]; exact S8Info) ?_) | (refine wpList_store_row rfl 189 _ _ rfl wr.heap.size (vC 8 s) rfl rfl 189 _ VB (by rw [vC_size]; exact S8Info) (by rw [vC_size]; rfl) (vC_one _ _) ?_))
         replace VB := VB.setRow (vC 8 s)
         clear F0'
         change Code.wp _ _ _ _ ((wr.alloc (.cells z8 189)).setRow wr.heap.size (vC 8 s))
         generalize ((wr.alloc (.cells z8 189)).setRow wr.heap.size (vC 8 s)) = v3 at *
         generalize wr.heap.size = vb at *
         go_loopw [13] (fun t wr => ∃ i : Nat, i ≤ 80 ∧ t = .int .i64 (i : Int) ∧ Blk wr vb (vC 8 (rds KK (sw u) (r8 s) i).at) 189 ∧ Chg v3 wr [vb]) (fun t _ => (80 - intOf t).toNat)
         case atStart => exact ⟨0, by omega, rfl, VB.to (r8_at s).symm, Chg.refl _ _⟩
         case round =>
           obtain ⟨i, hi, rfl, b0, c0⟩ := hrel
           clear VB
           by_cases h8 : i < 80
           · have hI : (i : Int) < 80 := by omega
             have HI1 : Hid (i + 1 ≤ 80) := by show i + 1 ≤ 80; omega
             have HME : Hid ((80 - intOf (.int .i64 ((i : Int) + 1))).toNat < (80 - intOf (.int .i64 (i : Int))).toNat) := by show (80 - intOf (.int .i64 ((i : Int) + 1))).toNat < (80 - intOf (.int .i64 (i : Int))).toNat; simp [intOf]; omega
             have HN : Hid (rds KK (sw u) (r8 s) (i + 1) = rd (rds KK (sw u) (r8 s) i) (KK i) (sw u i)) := rfl
             have hU := rds_U KK (sw u) (r8_U hs) i
             generalize rds KK (sw u) (r8 s) i = r at *
             obtain ⟨⟨ua, ub, uc, ud⟩, ue, uf, ug, uh⟩ := hU
             have uk := KK_lt i h8
             have uw := sw_lt hbd i
             have ck := ((GK.chg c0 (by simp; omega)).cell i).trans (vC_get 80 _ i h8)
             have cw := ((GW.chg c0 (by simp; omega)).cell i).trans (vC_get 80 _ i h8)
             obtain ⟨a, b, c', d, e', f, g', h⟩ := r
             simp only at ua ub uc ud ue uf ug uh
             have d0 : wr.cell? ⟨vb, 0, none⟩ = some (.int .u64 (a : Int)) := (b0.cell 0).trans (vC_get 8 _ 0 (by omega))
             have d1 : wr.cell? ⟨vb, 1, none⟩ = some (.int .u64 (b : Int)) := (b0.cell 1).trans (vC_get 8 _ 1 (by omega))
             have d2 : wr.cell? ⟨vb, 2, none⟩ = some (.int .u64 (c' : Int)) := (b0.cell 2).trans (vC_get 8 _ 2 (by omega))
             have d3 : wr.cell? ⟨vb, 3, none⟩ = some (.int .u64 (d : Int)) := (b0.cell 3).trans (vC_get 8 _ 3 (by omega))
             have d4 : wr.cell? ⟨vb, 4, none⟩ = some (.int .u64 (e' : Int)) := (b0.cell 4).trans (vC_get 8 _ 4 (by omega))
             have d5 : wr.cell? ⟨vb, 5, none⟩ = some (.int .u64 (f : Int)) := (b0.cell 5).trans (vC_get 8 _ 5 (by omega))
             have d6 : wr.cell? ⟨vb, 6, none⟩ = some (.int .u64 (g' : Int)) := (b0.cell 6).trans (vC_get 8 _ 6 (by omega))
             have d7 : wr.cell? ⟨vb, 7, none⟩ = some (.int .u64 (h : Int)) := (b0.cell 7).trans (vC_get 8 _ 7 (by omega))
             obtain ⟨kk, hkk⟩ : ∃ x, KK i = x := ⟨_, rfl⟩
             obtain ⟨ww, hww⟩ : ∃ x, sw u i = x := ⟨_, rfl⟩
             rw [hkk] at ck uk HN
             rw [hww] at cw uw HN
             have r14 := rr_lt 14 ue; have r18 := rr_lt 18 ue; have r41 := rr_lt 41 ue
             have r28 := rr_lt 28 ua; have r34 := rr_lt 34 ua; have r39 := rr_lt 39 ua
             have o1 : bits .xor .u64 ((rr 14 e' : Nat) : Int) ((rr 18 e' : Nat) : Int) = ((rr 14 e' ^^^ rr 18 e' : Nat) : Int) := u64_xor_nat _ _ r14 r18
             have o2 : bits .xor .u64 ((rr 14 e' ^^^ rr 18 e' : Nat) : Int) ((rr 41 e' : Nat) : Int) = ((tr 14 18 41 e' : Nat) : Int) := u64_xor_nat _ _ (xor_lt r14 r18) r41
             have o3 : bits .xor .u64 ((rr 28 a : Nat) : Int) ((rr 34 a : Nat) : Int) = ((rr 28 a ^^^ rr 34 a : Nat) : Int) := u64_xor_nat _ _ r28 r34
             have o4 : bits .xor .u64 ((rr 28 a ^^^ rr 34 a : Nat) : Int) ((rr 39 a : Nat) : Int) = ((tr 28 34 39 a : Nat) : Int) := u64_xor_nat _ _ (xor_lt r28 r34) r39
             have ne : U (18446744073709551615 - e') := by unfold U; omega
             have n0 : bits .and .u64 (e' : Int) (f : Int) = ((e' &&& f : Nat) : Int) := u64_and_nat _ _ ue uf
             have n1 : bits .xor .u64 IntKind.u64.max (e' : Int) = ((18446744073709551615 - e' : Nat) : Int) := by
               have h := BitVec.toNat_not (x := BitVec.ofNat 64 e')
               rw [BitVec.not_def, BitVec.toNat_xor, BitVec.toNat_allOnes, BitVec.toNat_ofNat, Nat.mod_eq_of_lt ue] at h
               exact (u64_xor_nat 18446744073709551615 e' (by decide) ue).trans (congrArg Int.ofNat h)
             have n1' : IntKind.u64.wrap (-1 - (e' : Int)) = ((18446744073709551615 - e' : Nat) : Int) := by unfold U at ue; rw [IntKind.wrap_u64]; omega
             have n2 : bits .and .u64 ((18446744073709551615 - e' : Nat) : Int) (g' : Int) = (((18446744073709551615 - e') &&& g' : Nat) : Int) := u64_and_nat _ _ ne ug
             have n3 : bits .xor .u64 ((e' &&& f : Nat) : Int) (((18446744073709551615 - e') &&& g' : Nat) : Int) = ((chc e' f g' : Nat) : Int) := u64_xor_nat _ _ (and_lt ue) (and_lt ne)
             have m0 : bits .and .u64 (a : Int) (b : Int) = ((a &&& b : Nat) : Int) := u64_and_nat _ _ ua ub
             have m1 : bits .and .u64 (a : Int) (c' : Int) = ((a &&& c' : Nat) : Int) := u64_and_nat _ _ ua uc
             have m2 : bits .and .u64 (b : Int) (c' : Int) = ((b &&& c' : Nat) : Int) := u64_and_nat _ _ ub uc
             have m3 : bits .xor .u64 ((a &&& b : Nat) : Int) ((a &&& c' : Nat) : Int) = (((a &&& b) ^^^ (a &&& c') : Nat) : Int) := u64_xor_nat _ _ (and_lt ua) (and_lt ua)
             have m4 : bits .xor .u64 (((a &&& b) ^^^ (a &&& c') : Nat) : Int) ((b &&& c' : Nat) : Int) = ((maj a b c' : Nat) : Int) := u64_xor_nat _ _ (xor_lt (and_lt ua) (and_lt ua)) (and_lt ub)
             have lq1 := tr_lt 14 18 41 ue; have lq2 := chc_lt (f := f) (g := g') ue; have lq3 := tr_lt 28 34 39 ua; have lq4 := maj_lt (c := c') ua ub
             have HT1 : Hid (t1 ⟨a, b, c', d, e', f, g', h⟩ kk ww = (h + tr 14 18 41 e' + chc e' f g' + kk + ww) % 18446744073709551616) := rfl
             have HT2 : Hid (t2 ⟨a, b, c', d, e', f, g', h⟩ = (tr 28 34 39 a + maj a b c') % 18446744073709551616) := rfl
             generalize hne : 18446744073709551615 - e' = ne0 at *
             generalize tr 14 18 41 e' = q1 at *
             generalize chc e' f g' = q2 at *
             generalize tr 28 34 39 a = q3 at *
             generalize maj a b c' = q4 at *
             obtain ⟨y1, hy1⟩ : ∃ x, (h + q1) % 18446744073709551616 = x := ⟨_, rfl⟩
             obtain ⟨y2, hy2⟩ : ∃ x, (y1 + q2) % 18446744073709551616 = x := ⟨_, rfl⟩
             obtain ⟨y3, hy3⟩ : ∃ x, (y2 + kk) % 18446744073709551616 = x := ⟨_, rfl⟩
             obtain ⟨T1, hT1⟩ : ∃ x, t1 ⟨a, b, c', d, e', f, g', h⟩ kk ww = x := ⟨_, rfl⟩
             obtain ⟨T2, hT2⟩ : ∃ x, t2 ⟨a, b, c', d, e', f, g', h⟩ = x := ⟨_, rfl⟩
             have hh1 := HT1.out
             have hh2 := HT2.out
             rw [hT1] at hh1
             rw [hT2] at hh2
             have a1 : IntKind.u64.wrap ((h : Int) + (q1 : Int)) = (y1 : Int) := by rw [IntKind.wrap_u64]; omega
             have a2 : IntKind.u64.wrap ((y1 : Int) + (q2 : Int)) = (y2 : Int) := by rw [IntKind.wrap_u64]; omega
             have a3 : IntKind.u64.wrap ((y2 : Int) + (kk : Int)) = (y3 : Int) := by rw [IntKind.wrap_u64]; omega
             have a4 : IntKind.u64.wrap ((y3 : Int) + (ww : Int)) = (T1 : Int) := by rw [IntKind.wrap_u64]; omega
             have a5 : IntKind.u64.wrap ((q3 : Int) + (q4 : Int)) = (T2 : Int) := by rw [IntKind.wrap_u64]; omega
             obtain ⟨N1, hN1⟩ : ∃ x, (T1 + T2) % 18446744073709551616 = x := ⟨_, rfl⟩
             obtain ⟨N5, hN5⟩ : ∃ x, (d + T1) % 18446744073709551616 = x := ⟨_, rfl⟩
             have a6 : IntKind.u64.wrap ((T1 : Int) + (T2 : Int)) = (N1 : Int) := by rw [IntKind.wrap_u64]; omega
             have a7 : IntKind.u64.wrap ((d : Int) + (T1 : Int)) = (N5 : Int) := by rw [IntKind.wrap_u64]; omega
             have HNX : Hid (rds KK (sw u) (r8 s) (i + 1) = ⟨N1, a, b, c', N5, e', f, g'⟩) := by
               show rds KK (sw u) (r8 s) (i + 1) = ⟨N1, a, b, c', N5, e', f, g'⟩
               rw [HN.out]
               unfold rd
               rw [hT1, hT2, hN1, hN5]
             clear hh1 hh2 hy1 hy2 hy3 hT1 hT2 hN1 hN5 HT1 HT2 HN hkk hww hne ne lq1 lq2 lq3 lq4 r14 r18 r41 r28 r34 r39 uk uw uh ud uf ug ub uc
             go_wp2_with fail
             refine wp_region_held_drew (S := fun w' => w' = wr.drew) (by kernel_rfl) (rfl) (fun hHeld => ?_)
             have hHeld : wr.drew = wr.drew := rfl
             refine tv ?_ 0 (some 93) rfl (fun w hSw => ?_) hHeld ?_; rotate_left; (· (go_simp; try with_reducible rfl)); try simp only [Act.put, sA]
             refine tv (.int .u64 (h : Int)) 1 (some 94) rfl (fun w hSw => ?_) hHeld ?_
             · subst hSw
               (go_simp; try with_reducible rfl)
             try simp only [Act.put, sA]
             refine tv ?_ 2 (some 95) rfl (fun w hSw => ?_) hHeld ?_; rotate_left; (· (go_simp; try with_reducible rfl)); try simp only [Act.put, sA]
             refine tv ?_ 4 (some 97) rfl (fun w hSw => ?_) hHeld ?_; rotate_left; (· (go_simp; try with_reducible rfl)); try simp only [Act.put, sA]
             refine tv ?_ 7 (some 100) rfl (fun w hSw => ?_) hHeld ?_; rotate_left; (· (go_simp; try with_reducible rfl)); try simp only [Act.put, sA]
             refine tv ?_ 11 (some 104) rfl (fun w hSw => ?_) hHeld ?_; rotate_left; (· (go_simp; try with_reducible rfl)); try simp only [Act.put, sA]
             refine tv ?_ 12 (some 105) rfl (fun w hSw => ?_) hHeld ?_; rotate_left; (· (go_simp; try with_reducible rfl)); try simp only [Act.put, sA]
             refine tv (.int .u64 (f : Int)) 13 (some 106) rfl (fun w hSw => ?_) hHeld ?_
             · subst hSw
               (go_simp; try with_reducible rfl)
             try simp only [Act.put, sA]
             refine tv (.int .u64 ((e' &&& f : Nat) : Int)) 14 (some 107) rfl (fun w hSw => ?_) hHeld ?_
             · (go_simp; try with_reducible rfl)
             try simp only [Act.put, sA]
             refine tv ?_ 15 (some 108) rfl (fun w hSw => ?_) hHeld ?_; rotate_left; (· (go_simp; try with_reducible rfl)); try simp only [Act.put, sA]
             refine tv (.int .u64 (ne0 : Int)) 16 (some 109) rfl (fun w hSw => ?_) hHeld ?_
             · (go_simp; exact n1)
             try simp only [Act.put, sA]
             refine tv ?_ 17 (some 110) rfl (fun w hSw => ?_) hHeld ?_; rotate_left; (· (go_simp; try with_reducible rfl)); try simp only [Act.put, sA]
             refine tv (.int .u64 (g' : Int)) 18 (some 111) rfl (fun w hSw => ?_) hHeld ?_
             · subst hSw
               (go_simp; try with_reducible rfl)
             try simp only [Act.put, sA]
             refine tv (.int .u64 ((ne0 &&& g' : Nat) : Int)) 19 (some 112) rfl (fun w hSw => ?_) hHeld ?_
             · (go_simp; try with_reducible rfl)
             try simp only [Act.put, sA]
             refine tv (.int .u64 (q2 : Int)) 20 (some 113) rfl (fun w hSw => ?_) hHeld ?_
             · (go_simp; try with_reducible rfl)
             try simp only [Act.put, sA]
             refine tv ?_ 22 (some 115) rfl (fun w hSw => ?_) hHeld ?_; rotate_left; (· (go_simp; try with_reducible rfl)); try simp only [Act.put, sA]
             refine tv ?_ 23 (some 116) rfl (fun w hSw => ?_) hHeld ?_; rotate_left; (· (go_simp; try with_reducible rfl)); try simp only [Act.put, sA]
             refine tv (.int .u64 (kk : Int)) 24 (some 117) rfl (fun w hSw => ?_) hHeld ?_
             · subst hSw
               (go_simp; try with_reducible rfl)
             try simp only [Act.put, sA]
             refine tv ?_ 26 (some 119) rfl (fun w hSw => ?_) hHeld ?_; rotate_left; (· (go_simp; try with_reducible rfl)); try simp only [Act.put, sA]
             refine tv ?_ 27 (some 120) rfl (fun w hSw => ?_) hHeld ?_; rotate_left; (· (go_simp; try with_reducible rfl)); try simp only [Act.put, sA]
             refine tv (.int .u64 (ww : Int)) 28 (some 121) rfl (fun w hSw => ?_) hHeld ?_
             · subst hSw
               (go_simp; try with_reducible rfl)
             try simp only [Act.put, sA]
             refine wpAnyH_ready (rs := [3]) (by kernel_rfl) (by simp) ?_
             refine AllReadyH.cons (o := _) rfl (fun K hK => ?_) ?_
             ·
               go_simp
               refine (rror_14 e' ue _).mono ?_
               rintro e z3 ⟨rfl, rfl⟩
               go_wp2_with fail
               refine hK.out _ _ (rfl) (fun hHeld => ?_)
               clear hK K
               try simp only [Act.put, sA]
               refine wpAnyH_ready (rs := [5]) (by kernel_rfl) (by simp) ?_
               refine AllReadyH.cons (o := _) rfl (fun K hK => ?_) ?_
               ·
                 go_simp
                 refine (rror_18 e' ue _).mono ?_
                 rintro e z5 ⟨rfl, rfl⟩
                 go_wp2_with fail
                 refine hK.out _ _ (rfl) (fun hHeld => ?_)
                 clear hK K
                 try simp only [Act.put, sA]
                 refine tv (.int .u64 ((rr 14 e' ^^^ rr 18 e' : Nat) : Int)) 6 (some 99) rfl (fun w hSw => ?_) hHeld ?_
                 · (go_simp; try with_reducible rfl)
                 try simp only [Act.put, sA]
                 refine wpAnyH_ready (rs := [8]) (by kernel_rfl) (by simp) ?_
                 refine AllReadyH.cons (o := _) rfl (fun K hK => ?_) ?_
                 ·
                   go_simp
                   refine (rror_41 e' ue _).mono ?_
                   rintro e z8 ⟨rfl, rfl⟩
                   go_wp2_with fail
                   refine hK.out _ _ (rfl) (fun hHeld => ?_)
                   clear hK K
                   try simp only [Act.put, sA]
                   refine tv (.int .u64 (q1 : Int)) 9 (some 102) rfl (fun w hSw => ?_) hHeld ?_
                   · (go_simp; try with_reducible rfl)
                   try simp only [Act.put, sA]
                   refine tv (.int .u64 (y1 : Int)) 10 (some 103) rfl (fun w hSw => ?_) hHeld ?_
                   · (go_simp; try with_reducible rfl)
                   try simp only [Act.put, sA]
                   refine tv (.int .u64 (y2 : Int)) 21 (some 114) rfl (fun w hSw => ?_) hHeld ?_
                   · (go_simp; try with_reducible rfl)
                   try simp only [Act.put, sA]
                   refine tv (.int .u64 (y3 : Int)) 25 (some 118) rfl (fun w hSw => ?_) hHeld ?_
                   · (go_simp; try with_reducible rfl)
                   try simp only [Act.put, sA]
                   refine tv (.int .u64 (T1 : Int)) 29 (some 122) rfl (fun w hSw => ?_) hHeld ?_
                   · (go_simp; try with_reducible rfl)
                   try simp only [Act.put, sA]
                   refine tv ?_ 30 (some 16) rfl (fun w hSw => ?_) hHeld ?_; rotate_left; (· (go_simp; try with_reducible rfl)); try simp only [Act.put, sA]
                   refine wpAnyH_done (by kernel_rfl) ?_ _
                   go_wp2_with fail
                   refine wp_region_held_drew (S := fun w' => w' = wr.drew.drew) (by kernel_rfl) (rfl) (fun hHeld => ?_)
                   have hHeld : wr.drew.drew = wr.drew.drew := rfl
                   refine tv ?_ 0 (some 123) rfl (fun w hSw => ?_) hHeld ?_; rotate_left; (· (go_simp; try with_reducible rfl)); try simp only [Act.put, sA]
                   refine tv ?_ 2 (some 125) rfl (fun w hSw => ?_) hHeld ?_; rotate_left; (· (go_simp; try with_reducible rfl)); try simp only [Act.put, sA]
                   refine tv ?_ 5 (some 128) rfl (fun w hSw => ?_) hHeld ?_; rotate_left; (· (go_simp; try with_reducible rfl)); try simp only [Act.put, sA]
                   refine tv ?_ 8 (some 131) rfl (fun w hSw => ?_) hHeld ?_; rotate_left; (· (go_simp; try with_reducible rfl)); try simp only [Act.put, sA]
                   refine tv ?_ 9 (some 132) rfl (fun w hSw => ?_) hHeld ?_; rotate_left; (· (go_simp; try with_reducible rfl)); try simp only [Act.put, sA]
                   refine tv (.int .u64 (b : Int)) 10 (some 133) rfl (fun w hSw => ?_) hHeld ?_
                   · subst hSw
                     (go_simp; try with_reducible rfl)
                   try simp only [Act.put, sA]
                   refine tv (.int .u64 ((a &&& b : Nat) : Int)) 11 (some 134) rfl (fun w hSw => ?_) hHeld ?_
                   · (go_simp; try with_reducible rfl)
                   try simp only [Act.put, sA]
                   refine tv ?_ 12 (some 135) rfl (fun w hSw => ?_) hHeld ?_; rotate_left; (· (go_simp; try with_reducible rfl)); try simp only [Act.put, sA]
                   refine tv ?_ 13 (some 136) rfl (fun w hSw => ?_) hHeld ?_; rotate_left; (· (go_simp; try with_reducible rfl)); try simp only [Act.put, sA]
                   refine tv (.int .u64 (c' : Int)) 14 (some 137) rfl (fun w hSw => ?_) hHeld ?_
                   · subst hSw
                     (go_simp; try with_reducible rfl)
                   try simp only [Act.put, sA]
                   refine tv (.int .u64 ((a &&& c' : Nat) : Int)) 15 (some 138) rfl (fun w hSw => ?_) hHeld ?_
                   · (go_simp; try with_reducible rfl)
                   try simp only [Act.put, sA]
                   refine tv (.int .u64 (((a &&& b) ^^^ (a &&& c') : Nat) : Int)) 16 (some 139) rfl (fun w hSw => ?_) hHeld ?_
                   · (go_simp; try with_reducible rfl)
                   try simp only [Act.put, sA]
                   refine tv ?_ 17 (some 140) rfl (fun w hSw => ?_) hHeld ?_; rotate_left; (· (go_simp; try with_reducible rfl)); try simp only [Act.put, sA]
                   refine tv (.int .u64 (b : Int)) 18 (some 141) rfl (fun w hSw => ?_) hHeld ?_
                   · subst hSw
                     (go_simp; try with_reducible rfl)
                   try simp only [Act.put, sA]
                   refine tv ?_ 19 (some 142) rfl (fun w hSw => ?_) hHeld ?_; rotate_left; (· (go_simp; try with_reducible rfl)); try simp only [Act.put, sA]
                   refine tv (.int .u64 (c' : Int)) 20 (some 143) rfl (fun w hSw => ?_) hHeld ?_
                   · subst hSw
                     (go_simp; try with_reducible rfl)
                   try simp only [Act.put, sA]
                   refine tv (.int .u64 ((b &&& c' : Nat) : Int)) 21 (some 144) rfl (fun w hSw => ?_) hHeld ?_
                   · (go_simp; try with_reducible rfl)
                   try simp only [Act.put, sA]
                   refine tv (.int .u64 (q4 : Int)) 22 (some 145) rfl (fun w hSw => ?_) hHeld ?_
                   · (go_simp; try with_reducible rfl)
                   try simp only [Act.put, sA]
                   refine wpAnyH_ready (rs := [1]) (by kernel_rfl) (by simp) ?_
                   refine AllReadyH.cons (o := _) rfl (fun K hK => ?_) ?_
                   ·
                     go_simp
                     refine (rror_28 a ua _).mono ?_
                     rintro e z1 ⟨rfl, rfl⟩
                     go_wp2_with fail
                     refine hK.out _ _ (rfl) (fun hHeld => ?_)
                     clear hK K
                     try simp only [Act.put, sA]
                     refine wpAnyH_ready (rs := [3]) (by kernel_rfl) (by simp) ?_
                     refine AllReadyH.cons (o := _) rfl (fun K hK => ?_) ?_
                     ·
                       go_simp
                       refine (rror_34 a ua _).mono ?_
                       rintro e z3 ⟨rfl, rfl⟩
                       go_wp2_with fail
                       refine hK.out _ _ (rfl) (fun hHeld => ?_)
                       clear hK K
                       try simp only [Act.put, sA]
                       refine tv (.int .u64 ((rr 28 a ^^^ rr 34 a : Nat) : Int)) 4 (some 127) rfl (fun w hSw => ?_) hHeld ?_
                       · (go_simp; try with_reducible rfl)
                       try simp only [Act.put, sA]
                       refine wpAnyH_ready (rs := [6]) (by kernel_rfl) (by simp) ?_
                       refine AllReadyH.cons (o := _) rfl (fun K hK => ?_) ?_
                       ·
                         go_simp
                         refine (rror_39 a ua _).mono ?_
                         rintro e z6 ⟨rfl, rfl⟩
                         go_wp2_with fail
                         refine hK.out _ _ (rfl) (fun hHeld => ?_)
                         clear hK K
                         try simp only [Act.put, sA]
                         refine tv (.int .u64 (q3 : Int)) 7 (some 130) rfl (fun w hSw => ?_) hHeld ?_
                         · (go_simp; try with_reducible rfl)
                         try simp only [Act.put, sA]
                         refine tv (.int .u64 (T2 : Int)) 23 (some 146) rfl (fun w hSw => ?_) hHeld ?_
                         · (go_simp; try with_reducible rfl)
                         try simp only [Act.put, sA]
                         refine tv ?_ 24 (some 17) rfl (fun w hSw => ?_) hHeld ?_; rotate_left; (· (go_simp; try with_reducible rfl)); try simp only [Act.put, sA]
                         refine wpAnyH_done (by kernel_rfl) ?_ _
                         have bd := b0.drew.drew
                         have cd := c0.drew.drew
                         have x1 : wr.drew.drew.cell? ⟨vb, 1, none⟩ = some (.int .u64 (b : Int)) := d1
                         have x2 : wr.drew.drew.cell? ⟨vb, 2, none⟩ = some (.int .u64 (c' : Int)) := d2
                         have x3 : wr.drew.drew.cell? ⟨vb, 3, none⟩ = some (.int .u64 (d : Int)) := d3
                         have x5 : wr.drew.drew.cell? ⟨vb, 5, none⟩ = some (.int .u64 (f : Int)) := d5
                         have x6 : wr.drew.drew.cell? ⟨vb, 6, none⟩ = some (.int .u64 (g' : Int)) := d6
                         clear o1 o2 o3 o4 n0 n1 n1' n2 n3 m0 m1 m2 m3 m4 a1 a2 a3 a4 a5 ck cw d0 d1 d2 d3 d4 d5 d6 d7 b0 c0 ua ue GK GW
                         generalize wr.drew.drew = w9 at *
                         obtain ⟨NV, hNV⟩ : ∃ NV, R8.at ⟨N1, a, b, c', N5, e', f, g'⟩ = NV := ⟨_, rfl⟩
                         have HBV : Hid _ := builtV N1 a b c' N5 e' f g'
                         rw [hNV] at HBV
                         have HNV : Hid (R8.at ⟨N1, a, b, c', N5, e', f, g'⟩ = NV) := hNV
                         clear hNV
                         go_wp2_with (first
                           | (with_reducible refine wpList_build_c ?_ 189 #[(0, .tmp 149), (1, .tmp 150), (2, .tmp 152), (3, .tmp 154), (4, .tmp 158), (5, .tmp 159), (6, .tmp 161), (7, .tmp 163)] ?_ (vC 8 NV) ?_ ?_
                              · rfl
                              · rfl
                              · (go_simp; with_reducible exact HBV.out))
                           | (with_reducible refine store_b bd 189 (.tmp 12) (.tmp 164) (vC 8 NV) ?_ ?_ ?_ ?_ ?_ ?_ (vC_one _ _) ?_
                              · rfl
                              · rfl
                              · rfl
                              · rfl
                              · (rw [vC_size]; exact S8Info)
                              · (rw [vC_size, vC_size])))
                         exact ⟨⟨i + 1, HI1.out, by go_num, by rw [HNX.out, HNV.out]; exact bd.setRow _, cd.trans1 (Chg.of (gb_setRow (gb_refl _ _) _))⟩, HME.out⟩
                       exact AllReadyH.nil
                     exact AllReadyH.nil
                   exact AllReadyH.nil
                 exact AllReadyH.nil
               exact AllReadyH.nil
             exact AllReadyH.nil
           · have hI : ¬ (i : Int) < 80 := by omega
             have HI80 : Hid (i = 80) := by show i = 80; omega
             have VB : Blk wr vb (vC 8 (rds KK (sw u) (r8 s) 80).at) 189 := by have e := HI80.out; rw [e] at b0; exact b0
             clear hi h8 b0 HI80
             obtain ⟨ft, hft⟩ : ∃ ft, (rds KK (sw u) (r8 s) 80).at = ft := ⟨_, rfl⟩
             have HFT : Hid ((rds KK (sw u) (r8 s) 80).at = ft) := hft
             rw [hft] at VB
             clear hft
             have VB0 : Blk wr vb (vC 8 (adf ft s 0)) 189 := VB.to (vC_eq fun j _ => (if_neg (by omega)).symm)
             clear VB
             go_wp2_with fail
             go_loopw [18] (fun t wr => ∃ i : Nat, i ≤ 8 ∧ t = .int .i64 (i : Int) ∧ Blk wr vb (vC 8 (adf ft s i)) 189 ∧ Chg v3 wr [vb]) (fun t _ => (8 - intOf t).toNat)
             case atStart => exact ⟨0, by omega, rfl, VB0, c0⟩
             case round =>
               clear VB0 c0
               obtain ⟨i, hi, rfl, b0, c0⟩ := hrel
               by_cases h8 : i < 8
               · have hI8 : (i : Int) < 8 := by omega
                 have cs := ((G0.chg c0 (by simp; omega)).cell i).trans (vC_get 8 _ i h8)
                 have cv := (b0.cell i).trans (vC_get 8 _ i h8)
                 rw [adf_at] at cv
                 have hst := adf_step ft s i
                 obtain ⟨x, hx⟩ : ∃ x, ft i = x := ⟨_, rfl⟩
                 obtain ⟨y, hy⟩ : ∃ y, s i = y := ⟨_, rfl⟩
                 rw [hx] at cv hst
                 rw [hy] at cs hst
                 obtain ⟨z, hz⟩ : ∃ z, (x + y) % 18446744073709551616 = z := ⟨_, rfl⟩
                 rw [hz] at hst
                 have a1 : IntKind.u64.wrap ((x : Int) + (y : Int)) = (z : Int) := by rw [IntKind.wrap_u64]; omega
                 have e1 : IntKind.i64.wrap ((i : Int) + 1) = (i : Int) + 1 := by rw [IntKind.wrap_i64]; omega
                 have fk := b0.frozen i
                 have b1 := ((b0.setCell i (.int .u64 (z : Int))).to (by rw [vC_set, hst])).drew
                 have c1 := (c0.setIn (k := vb) (by simp) i (.int .u64 (z : Int))).drew
                 clear hx hy hz hst b0 c0
                 go_wp2_with fail
                 go_region
                 go_wp2_with fail
                 exact ⟨⟨i + 1, by omega, by go_num, b1, c1⟩, by simp [intOf]; omega⟩
               · have hI8 : ¬ (i : Int) < 8 := by omega
                 have HI8 : Hid (i = 8) := by show i = 8; omega
                 have b8 : Blk wr vb (vC 8 (cmp KK s u)) 189 := b0.to (vC_eq fun j hj => by rw [HI8.out]; unfold adf cmp; rw [if_pos hj, HFT.out, Nat.add_comm])
                 have G1' := G1.chg c0 (by simp; omega)
                 have GC' := GC.new c0 (by omega)
                 clear b0 h8 hi HI8 G0 G1 GK GW GC c0
                 obtain ⟨fin, hfin⟩ : ∃ fin, cmp KK s u = fin := ⟨_, rfl⟩
                 have HFIN : Hid (cmp KK s u = fin) := hfin
                 rw [hfin] at b8
                 clear hfin
                 go_wp2_with (first
                   | (with_reducible refine load_b b8 189 (.tmp 12) Tryz.underlying189 ?_ ?_ ?_ ?_ ?_ ?_
                      · rfl
                      · rfl
                      · rfl
                      · rfl
                      · (rw [vC_size]; exact S8Info))
                   | (with_reducible refine store_b G1' 189 (.tmp 4) (.tmp 178) (vC 8 fin) ?_ ?_ ?_ ?_ ?_ ?_ (vC_one _ _) ?_
                      · rfl
                      · rfl
                      · rfl
                      · rfl
                      · (rw [vC_size]; exact S8Info)
                      · (rw [vC_size]; rfl)))
                 exact bodyPost_ret (results_cell_row Tryz.results88 _ _ (w.heap.size + 1) 189 (vC 8 fin) (0, 0) _ rfl (G1'.setRow _) Tryz.underlying189 rfl (by rw [vC_size]; exact S8Info)) rfl ⟨by rw [HFIN.out], GC'.setRowNew (by omega) _⟩
end Go.Proofs.YtgjclegpnbjlkaaGreatDoor
