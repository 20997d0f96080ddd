import Derived.Test.YtgjclegpnbjlkaaGreatDoorMwO
import Derived.Test.YtgjclegpnbjlkaaGreatDoorRSc
set_option linter.all false
namespace Go.Proofs.YtgjclegpnbjlkaaGreatDoor
set_option maxHeartbeats 8000000
set_option maxRecDepth 100000
open Go.RowKit
def dgt (s : Nat → Nat) (i : Nat) : Nat → Nat := fun j => if j < i then dig s j else 0
theorem dgt_zero (s : Nat → Nat) : yC 64 (dgt s 0) = yC 64 fun _ => 0 := yC_eq fun j _ => if_neg (by omega)
theorem dgt_all (s : Nat → Nat) : yC 64 (dgt s 64) = yC 64 (dig s) := yC_eq fun j hj => if_pos hj
theorem dgt_step (s : Nat → Nat) (i : Nat) : up (dgt s i) i (dig s i) = dgt s (i + 1) := by
 funext j; unfold up dgt
 by_cases h : j = i
 · subst h; rw [if_pos rfl, if_pos (by omega)]
 · rw [if_neg h]
   by_cases h2 : j < i
   · rw [if_pos h2, if_pos (by omega)]
   · rw [if_neg h2, if_neg (by omega)]
theorem dgt_at (S : Nat → Nat) (i p q r : Nat) (hp : i / 8 = p) (hq : i % 8 = q) (hr : 56 - 8 * q = r) : dig S i = S p / 2 ^ r % 256 := by
 unfold dig
 rw [hp, hq, show (256 : Nat) = 2 ^ 8 from rfl, ← Nat.pow_mul, show 8 * (7 - q) = r by omega]
theorem Sl.frm {w : World} {v : Value} {M : Nat} {u : Nat → Nat} (h : Sl w v M u) : ∃ p cp, v = .slice p M cp ∧ (0 < M → ∃ g o, p = some ⟨g, o, none⟩ ∧ M ≤ cp ∧ cp ≤ 9223372036854775807 ∧ Bs w g o M u) := by
 rcases h with ⟨rfl, rfl⟩ | ⟨g, o, cap, rfl, h1, h2, h3⟩
 · exact ⟨none, 0, rfl, fun h => by omega⟩
 · exact ⟨_, _, rfl, fun _ => ⟨g, o, rfl, h1, h2, h3⟩⟩
theorem Finish_r (s t : Nat → Nat) (k n : Nat) (v : Value) (w : World) (hs : ∀ i, i < 8 → U (s i)) (hn : n < 2305843009213693952) (hk : k ≤ 140737488355328) (hv : Sl w v k t) :
   Calls Tryz.prog 89 #[.agg (vC 8 s), v, .int .u64 (n : Int)] w fun e w' => e = .returned (.agg (yC 64 (dig (run KK s (cat t k (pdf n)) ((k + (17 + zr n)) / 128))))) ∧ Chg w w' [] := by
 have HUS : Hid (∀ i, i < 8 → U (s i)) := hs
 have HK : Hid (k ≤ 140737488355328) := hk
 obtain ⟨M, hM⟩ : ∃ M, k + (17 + zr n) = M := ⟨_, rfl⟩
 obtain ⟨u, hu⟩ : ∃ u, cat t k (pdf n) = u := ⟨_, rfl⟩
 have HML : Hid (M ≤ 140737488356000) := by have := zr_lt n; show M ≤ 140737488356000; omega
 have F3 : Blk ((w.alloc (.cells (vC 8 s) 189)).alloc (.cells z64 143)) w.heap.size (vC 8 s) 189 := (Blk.new _ _ _).alloc _
 have F6 : Blk ((w.alloc (.cells (vC 8 s) 189)).alloc (.cells z64 143)) (w.heap.size + 1) z64 143 := by have h := Blk.new (w.alloc (.cells (vC 8 s) 189)) z64 143; simpa using h
 have C0 : Chg w ((w.alloc (.cells (vC 8 s) 189)).alloc (.cells z64 143)) [] := ((Chg.refl w []).alloc _).alloc _
 have HPD : Hid (∀ w, Calls Tryz.prog 109 #[.int .u64 (n : Int)] w fun e w' => ∃ v, e = .returned (.tuple #[v, .int .i64 0]) ∧ Own w' w.heap.size v (17 + zr n) (pdf n) ∧ Chg w w' []) := fun w => Pad_r n w hn
 obtain ⟨P, hP⟩ : ∃ P, pdf n = P := ⟨_, rfl⟩
 obtain ⟨m, hm⟩ : ∃ m, 17 + zr n = m := ⟨_, rfl⟩
 rw [hP, hm] at HPD
 rw [hP] at hu
 rw [hm] at hM
 rw [hP, hu, hm, hM]
 have HU : Hid (cat t k P = u) := hu
 have HM : Hid (k + m = M) := hM
 have HM0 : Hid (0 < M) := by show 0 < M; omega
 obtain ⟨N, hN⟩ : ∃ N : Int, (n : Int) = N := ⟨_, rfl⟩
 rw [hN] at HPD ⊢
 obtain ⟨c8, hc8⟩ : ∃ c8, vC 8 s = c8 := ⟨_, rfl⟩
 have HC8 : Hid (vC 8 s = c8) := hc8
 rw [hc8] at F3 F6 C0
 rw [hc8]
 clear hs hn hk hM hu hP hm hN hc8
 go_enter Tryz.func89, Tryz.ntmps89
 go_wp2_with fail
 try (change Calls Tryz.prog _ _ ((w.alloc (.cells c8 189)).alloc (.cells z64 143)) _)
 generalize ((w.alloc (.cells c8 189)).alloc (.cells z64 143)) = w0 at *
 refine (HPD.out _).mono ?_
 rintro e w1 ⟨pv, rfl, OP, k1⟩
 replace F3 := F3.chg k1 (by simp)
 replace F6 := F6.chg k1 (by simp)
 replace C0 := C0.trans1 k1
 have hv1 := hv.chg C0 (Off.nil _)
 have HPV : Hid (∀ x ∈ ob pv, w0.heap.size ≤ x ∧ x < w1.heap.size) := OP.ob_ge
 have SP := OP.sl
 clear k1 HPD hv
 have HB1 : Hid (w1.heap.size ≤ w1.heap.size) := Nat.le_refl _
 have HB0 : Hid (w.heap.size ≤ w1.heap.size) := C0.size
 have HL1 : Hid (0 + k ≤ 211106232532992) := by have := HK.out; show 0 + k ≤ 211106232532992; omega
 have HL2 : Hid (k + m ≤ 211106232532992) := by have := HML.out; have := HM.out; show k + m ≤ 211106232532992; omega
 have ON := Own.nil w1 w1.heap.size (fun _ => 0)
 go_wp2_with (first
   | (with_reducible refine append_y ?_ (.tmp 18) (.tmp 19) ?_ w1.heap.size (.slice none 0 0) v 0 k (fun _ => 0) t ?_ ?_ ON hv1 HL1.out HB1.out ?_
      · rfl
      · rfl
      · rfl
      · rfl
      intro a2 w2 O2 k2
      rw [Nat.zero_add, cat_zero] at O2
      have k2' : Chg w1 w2 [] := k2
      have SP2 := SP.chg k2' (Off.nil _)
      have HB2 : Hid (w1.heap.size ≤ w2.heap.size) := k2'.size)
   | (with_reducible refine append_y ?_ (.tmp 21) (.tmp 22) ?_ w1.heap.size a2 pv k m t P ?_ ?_ O2 SP2 HL2.out HB2.out ?_
      · rfl
      · rfl
      · rfl
      · rfl
      intro a3 w3 O3 k3
      rw [HU.out, HM.out] at O3))
 have HOB : Hid (∀ x ∈ ob a2, w1.heap.size ≤ x) := fun x hx => (O2.ob_ge x hx).1
 have k23 : Chg w1 w3 [] := k2'.trans k3 (fun x hx => Or.inr (HOB.out x hx))
 have HLT : Hid (w.heap.size < w1.heap.size ∧ w.heap.size + 1 < w1.heap.size) := ⟨F3.lt, F6.lt⟩
 replace F3 := F3.chg k23 (by simp)
 have B6 := F6.chg k23 (by simp)
 replace C0 := C0.trans1 k23
 obtain ⟨y, hy⟩ : ∃ y, w3 = y := ⟨_, rfl⟩
 subst hy
 have HOB3 : Hid (∀ x ∈ ob a3, w1.heap.size ≤ x) := fun x hx => (O3.ob_ge x hx).1
 obtain ⟨p, cp, rfl, hpf⟩ := O3.sl.frm
 rw [← HC8.out] at F3
 have HBs : Hid (w.heap.size ≤ w.heap.size) := Nat.le_refl _
 have HBd : Hid (w.heap.size ≤ w.heap.size + 1) := by show w.heap.size ≤ w.heap.size + 1; omega
 have HD6 : Hid (¬ w.heap.size + 1 = w.heap.size) := by show ¬ w.heap.size + 1 = w.heap.size; omega
 generalize hgd : w.heap.size + 1 = gd at *
 obtain ⟨sb, hsb⟩ : ∃ b, w.heap.size = b := ⟨_, rfl⟩
 have HPF : Hid (0 < M → ∃ g o, p = some ⟨g, o, none⟩ ∧ M ≤ cp ∧ cp ≤ 9223372036854775807 ∧ ¬ g = sb ∧ Bs w3 g o M u) := fun h => by
   obtain ⟨g, o, rfl, h1, h2, h3⟩ := hpf h
   refine ⟨g, o, rfl, h1, h2, ?_, h3⟩
   have q := O3.1
   rcases q.2 with ⟨h0, _⟩ | ⟨g', cap', cur', he, hg', _⟩
   · omega
   · simp only [Value.slice.injEq, Option.some.injEq, Addr.mk.injEq] at he
     have := HLT.out.1
     omega
 have HBs : Hid (w.heap.size ≤ sb) := by show w.heap.size ≤ sb; omega
 rw [hsb] at F3 HD6
 rw [hsb]
 have SB0 : Blk w3 sb (vC 8 (run KK s u 0)) 189 := F3
 clear hsb hpf F3 F6 HOB3 O3 k23 k3 O2 SP2 SP OP ON k2 hv1 HOB hgd
 generalize w3 = y at *
 go_loopw [10] (fun t wr => ∃ j q : Nat, 128 * j = q ∧ q ≤ M ∧ t = .int .i64 (q : Int) ∧ Blk wr sb (vC 8 (run KK s u j)) 189 ∧ Chg y wr [sb]) (fun t _ => ((M : Int) - intOf t).toNat)
 case atStart => exact ⟨0, 0, rfl, Nat.zero_le _, rfl, SB0, Chg.refl _ _⟩
 case round =>
   clear SB0
   obtain ⟨j, q, hjq, hqM, rfl, b0, c0⟩ := hrel
   by_cases h9 : q + 128 ≤ M
   · have hI2 : (q : Int) + 128 ≤ (M : Int) := by omega
     have e8 : IntKind.i64.wrap ((q : Int) + 128) = (q : Int) + 128 := by have := HML.out; rw [IntKind.wrap_i64]; omega
     have hn8 : ((q : Int) + 128).toNat = q + 128 := by omega
     have hI6 : (0 : Int) ≤ (q : Int) + 128 := by omega
     have hI0 : (0 : Int) ≤ (q : Int) := by omega
     have hI7 : (q : Int) ≤ (q : Int) + 128 := by omega
     obtain ⟨g, o, rfl, hc1, hc2, hgs, hB⟩ := HPF.out (by omega)
     have hI3 : (M : Int) ≤ (cp : Int) := by omega
     have hI5 : (q : Int) + 128 ≤ (cp : Int) := by omega
     have hci : ¬ cp = q := by omega
     have hcpq : 128 ≤ cp - q := by omega
     have BK : Hid (Bs wr g (o + q) 128 (fun i => u (q + i))) := (hB.chg c0 (by simpa using hgs)).sub q 128 h9
     have us := run_lt (k := KK) (u := u) HUS.out j
     have HRN : Hid (vC 8 (run KK s u (j + 1)) = vC 8 (cmp KK (run KK s u j) fun i => u (q + i))) := by subst hjq; rfl
     have HBLK : Hid (∀ w, Bs w g (o + q) 128 (fun i => u (q + i)) → Calls Tryz.prog 88 #[.agg (vC 8 (run KK s u j)), .slice (some ⟨g, o + q, none⟩) 128 (cp - q)] w fun e w' => e = .returned (.agg (vC 8 (cmp KK (run KK s u j) fun i => u (q + i)))) ∧ Chg w w' []) := fun w hb => block_r _ _ g (o + q) (cp - q) w us hcpq hb
     have HSZ : Hid ((vC 8 (run KK s u j)).size = 8) := vC_size _ _
     have HSZ2 : Hid ((vC 8 (cmp KK (run KK s u j) fun i => u (q + i))).size = 8) := vC_size _ _
     have HON : Hid ((vC 8 (cmp KK (run KK s u j) fun i => u (q + i))).all (·.oneCell') = true) := vC_one _ _
     obtain ⟨cs, hcs⟩ : ∃ cs, vC 8 (run KK s u j) = cs := ⟨_, rfl⟩
     obtain ⟨ct, hct⟩ : ∃ ct, vC 8 (cmp KK (run KK s u j) fun i => u (q + i)) = ct := ⟨_, rfl⟩
     rw [hcs, hct] at HBLK
     rw [hcs] at HSZ b0
     rw [hct] at HSZ2 HRN HON
     have HJ : Hid (128 * (j + 1) = q + 128) := by show 128 * (j + 1) = q + 128; omega
     have H9 : Hid (q + 128 ≤ M) := h9
     clear hjq hqM h9 us hcs hct hB hc2
     go_wp2_with fail
     refine wp_region_held_drew (S := fun w' => Chg wr w' [sb]) (by kernel_rfl) ((Chg.refl wr _).drew) (fun hHeld => ?_)
     refine tv ?_ 1 (some 32) rfl (fun w hSw => ?_) hHeld ?_; rotate_left; (· (go_simp; try with_reducible rfl)); try simp only [Act.put, sA]
     refine tv ?_ 2 (some 33) rfl (fun w hSw => ?_) hHeld ?_; rotate_left; (· (go_simp; try with_reducible rfl)); try simp only [Act.put, sA]
     refine tv ?_ 3 (some 34) rfl (fun w hSw => ?_) hHeld ?_; rotate_left; (· (go_simp; try with_reducible rfl)); try simp only [Act.put, sA]
     refine tv ?_ 4 (some 35) rfl (fun w hSw => ?_) hHeld ?_; rotate_left; (· (go_simp; try with_reducible rfl)); try simp only [Act.put, sA]
     refine tv (.slice (some ⟨g, o + q, none⟩) 128 (cp - q)) 5 (some 36) rfl (fun w hSw => ?_) hHeld ?_
     · (go_simp; try omega)
     try simp only [Act.put, sA]
     refine wpAnyH_ready (rs := [0]) (by kernel_rfl) (by simp) ?_
     refine AllReadyH.cons (o := _) rfl (fun K hK => ?_) ?_
     ·
       rw [if_pos (by rfl)]
       refine wp_load_row 189 (.tmp 3) rfl sb rfl 189 cs (0, 0) _ b0.drew Tryz.underlying189 rfl (by rw [HSZ.out]; exact S8Info) ?_
       refine hK.out _ _ hHeld (fun hHeld => ?_)
       clear hK K
       try simp only [Act.put, sA]
       refine wpAnyH_ready (rs := [6]) (by kernel_rfl) (by simp) ?_
       refine AllReadyH.cons (o := _) rfl (fun K hK => ?_) ?_
       ·
         go_simp
         refine (HBLK.out _ (BK.out.chg (Chg.refl wr []).drew (by simp))).mono ?_
         rintro e x1 ⟨rfl, k1⟩
         go_wp2_with fail
         have b1 := b0.drew.chg k1 (by simp)
         refine hK.out _ _ (hHeld.trans1 k1.wide) (fun hHeld => ?_)
         clear hK K k1
         try simp only [Act.put, sA]
         refine wpAnyH_ready (rs := [7]) (by kernel_rfl) (by simp) ?_
         refine AllReadyH.cons (o := _) rfl (fun K hK => ?_) ?_
         ·
           rw [if_pos (by rfl)]
           refine wp_store_row 189 _ _ rfl sb ct rfl rfl 189 _ b1 (by rw [HSZ2.out]; exact S8Info) (by rw [HSZ.out, HSZ2.out]) HON.out ?_
           have hS := hHeld.trans1 (Chg.of (gb_setRow (gb_refl x1 (some sb)) ct))
           refine hK.out _ _ hS (fun hHeld => ?_)
           clear hK K hHeld
           try simp only [Act.put, sA]
           refine wpAnyH_done (by kernel_rfl) ?_ _
           have b2 := b1.setRow ct
           generalize x1.setRow sb ct = x2 at *
           go_wp2_with fail
           exact ⟨⟨j + 1, q + 128, HJ.out, H9.out, by go_num, b2.to HRN.out.symm, c0.trans1 hS⟩, by have := H9.out; simp [intOf]; omega⟩
         exact AllReadyH.nil
       exact AllReadyH.nil
     exact AllReadyH.nil
   · have hI2 : ¬ (q : Int) + 128 ≤ (M : Int) := by omega
     have e8 : IntKind.i64.wrap ((q : Int) + 128) = (q : Int) + 128 := by have := HML.out; rw [IntKind.wrap_i64]; omega
     have HJQ : Hid (128 * j = q ∧ q ≤ M ∧ M < q + 128) := by show 128 * j = q ∧ q ≤ M ∧ M < q + 128; omega
     clear hjq hqM h9
     obtain ⟨S, hS⟩ : ∃ S, run KK s u j = S := ⟨_, rfl⟩
     have HSE : Hid (S = run KK s u (M / 128)) := by show S = _; rw [← hS]; congr 1; have := HJQ.out; omega
     rw [hS] at b0
     clear hS
     have C1 := C0.new c0 HBs.out
     have hB6 := B6.chg c0 (by simp; have := HD6.out; omega)
     clear c0 HPF
     have D0 := Blk.new wr z64 143
     have b1 := b0.alloc (.cells z64 143)
     have hB7 := hB6.alloc (.cells z64 143)
     have C2 := C1.alloc (.cells z64 143)
     have HD7 : Hid (¬ sb = wr.heap.size ∧ ¬ gd = wr.heap.size ∧ w.heap.size ≤ wr.heap.size) := by have h1 := b0.lt; have h2 := hB6.lt; have h3 := C1.size; show ¬ sb = wr.heap.size ∧ ¬ gd = wr.heap.size ∧ w.heap.size ≤ wr.heap.size; omega
     clear b0 hB6 C1
     go_wp2_with fail
     try (change Code.wp _ _ _ _ (wr.alloc (.cells z64 143)))
     generalize wr.alloc (.cells z64 143) = y1 at *
     obtain ⟨db, hdb⟩ : ∃ b, wr.heap.size = b := ⟨_, rfl⟩
     rw [hdb] at D0 HD7
     rw [hdb]
     clear hdb
     have D1 : Blk y1 db (yC 64 (dgt S 0)) 143 := D0.to (zD.trans (dgt_zero S).symm)
     clear D0
     go_loopw [12] (fun t wr => ∃ i : Nat, i ≤ 64 ∧ t = .int .i64 (i : Int) ∧ Blk wr db (yC 64 (dgt S i)) 143 ∧ Chg y1 wr [db]) (fun t _ => (64 - intOf t).toNat)
     case atStart => exact ⟨0, Nat.zero_le _, rfl, D1, Chg.refl _ _⟩
     case round =>
       clear D1
       obtain ⟨i, hi, rfl, d0, c1⟩ := hrel
       by_cases h8 : i < 64
       · have hI : (i : Int) < 64 := by omega
         have hI0 : (0 : Int) ≤ (i : Int) := by omega
         have e1 : IntKind.i64.wrap ((i : Int) + 1) = (i : Int) + 1 := by rw [IntKind.wrap_i64]; omega
         obtain ⟨p, hp⟩ : ∃ p, i / 8 = p := ⟨_, rfl⟩
         obtain ⟨q2, hq⟩ : ∃ q, i % 8 = q := ⟨_, rfl⟩
         obtain ⟨r, hr⟩ : ∃ r, 56 - 8 * q2 = r := ⟨_, rfl⟩
         have hp8 : (p : Int) < 8 := by omega
         have hp0 : (0 : Int) ≤ (p : Int) := by omega
         have hdv : (i : Int).tdiv 8 = (p : Int) := by rw [Int.tdiv_eq_ediv_of_nonneg (by omega)]; omega
         have hmd : (i : Int).tmod 8 = (q2 : Int) := by rw [Int.tmod_eq_emod_of_nonneg (by omega)]; omega
         have hdv2 : (i : Int) / 8 = (p : Int) := by omega
         have hmd2 : (i : Int) % 8 = (q2 : Int) := by omega
         have hsb : (56 : Int) - 8 * (q2 : Int) = (r : Int) := by omega
         have hwr : IntKind.u64.wrap (r : Int) = (r : Int) := by rw [IntKind.wrap_u64]; omega
         have hmi : min r 64 = r := by omega
         obtain ⟨x, hx⟩ : ∃ x, S p / 2 ^ r % 256 = x := ⟨_, rfl⟩
         have hx2 : ((S p : Nat) : Int) / 2 ^ r % 256 = (x : Int) := by rw [← hx, Int.natCast_emod, Int.natCast_ediv, Int.natCast_pow]; rfl
         have HST : Hid (up (dgt S i) i x = dgt S (i + 1)) := by
           show up (dgt S i) i x = dgt S (i + 1)
           rw [← hx, ← dgt_at S i p q2 r hp hq hr]
           exact dgt_step S i
         have cD := (d0.cell i).trans (yC_get 64 _ i h8)
         have fD := d0.frozen i
         have cW := ((b1.chg c1 (by simp; have := HD7.out; omega)).cell p).trans (vC_get 8 _ p (by omega))
         have HI : Hid (i + 1 ≤ 64) := h8
         clear hp hq hr hx hi h8
         generalize S p = sp at *
         generalize dgt S i i = x0 at *
         go_wp2_with fail
         have d1 := d0.setCell i (.int .u8 (x : Int))
         rw [yC_set, HST.out] at d1
         have c2 := c1.setIn (show db ∈ [db] by simp) i (.int .u8 (x : Int))
         exact ⟨⟨i + 1, HI.out, by go_num, d1, c2⟩, by have := HI.out; simp [intOf]; omega⟩
       · have h64 : i = 64 := by omega
         subst h64
         have hI : ¬ ((64 : Nat) : Int) < 64 := by omega
         have d1 := d0.to (dgt_all S)
         have hB8 := hB7.chg c1 (by simp; have := HD7.out; omega)
         have C3 := C2.new c1 HD7.out.2.2
         obtain ⟨cd, hcd⟩ : ∃ cd, yC 64 (dig S) = cd := ⟨_, rfl⟩
         have HCD : Hid (cd = yC 64 (dig (run KK s u (M / 128)))) := by show cd = _; rw [← hcd, HSE.out]
         have HZ4 : Hid (cd.size = 64) := by show cd.size = 64; rw [← hcd, yC_size]
         have HON : Hid (cd.all (·.oneCell') = true) := by show cd.all (·.oneCell') = true; rw [← hcd]; exact yC_one _ _
         rw [hcd] at d1
         clear hcd d0 c1 b1 hB7 hI
         go_wp2_with (first
           | (with_reducible refine load_b d1 143 (.tmp 11) Tryz.underlying143 ?_ ?_ ?_ ?_ ?_ ?_
              · rfl
              · rfl
              · rfl
              · rfl
              · (rw [HZ4.out]; exact DInfo))
           | (with_reducible refine store_b hB8 143 (.tmp 6) (.tmp 55) cd ?_ ?_ ?_ ?_ ?_ ?_ HON.out ?_
              · rfl
              · rfl
              · rfl
              · rfl
              · (rw [HZ4.out]; exact DInfo)
              · (rw [HZ4.out]; rfl)))
         exact bodyPost_ret (results_cell_row Tryz.results89 _ _ gd 143 cd (0, 0) _ rfl (hB8.setRow cd) Tryz.underlying143 rfl (by rw [HZ4.out]; exact DInfo)) rfl ⟨by rw [HCD.out], C3.setRowNew HBd.out _⟩
theorem from_sl {w : World} {p : Option Addr} {cp M q : Nat} {u : Nat → Nat} (hS : Sl w (.slice p M cp) M u) (hq : q ≤ M) :
   ∃ rv, (∀ W, (Instr.slice 29 (.slice p M cp) (some (.int .i64 (q : Int))) none none).run Tryz.prog W = .ok rv W) ∧ Sl w rv (M - q) (fun i => u (q + i)) := by
 have hr : ∀ W, (Instr.slice 29 (.slice p M cp) (some (.int .i64 (q : Int))) none none).run Tryz.prog W = .ok (.slice (if cp = q then p else p.map (·.add (q * 1))) (M - q) (cp - q)) W := fun W => by
   have h := run_slice_l (P := Tryz.prog) (w := W) 29 p M cp (by kernel_rfl) .i64 (q : Int) (by omega) (by omega)
   have hz : (sizeOf (Tryz.prog.elem 29)).run Tryz.prog W = .ok 1 W := by
     obtain ⟨i, hi, _⟩ := u8Row
     have he : Tryz.prog.elem 29 = 5 := by kernel_rfl
     have hc : Tryz.prog.cellsOf 5 = 1 := by kernel_rfl
     rw [he, run_sizeOf _ hi, hc]
   rw [h, Int.toNat_natCast, hz]
   simp only [Result.andThen, sliced]
 refine ⟨_, hr, ?_⟩
 rcases hS with ⟨h0, he⟩ | ⟨g, o, cap, he, h1, h2, hb⟩
 · simp only [Value.slice.injEq] at he
   obtain ⟨rfl, rfl, rfl⟩ := he
   have hq0 : q = 0 := by omega
   subst hq0
   exact Or.inl ⟨rfl, rfl⟩
 · simp only [Value.slice.injEq] at he
   obtain ⟨rfl, _, rfl⟩ := he
   by_cases hc : cp = q
   · rw [if_pos hc]
     have hMq : M - q = 0 := by omega
     refine Or.inr ⟨g, o, cp - q, rfl, by omega, by omega, ⟨hb.lt, fun i hi => by omega, fun i hi => by omega⟩⟩
   · rw [if_neg hc]
     have ha : (⟨g, o, none⟩ : Addr).add (q * 1) = ⟨g, o + q, none⟩ := by rw [Addr.add_mid, Nat.mul_one]
     refine Or.inr ⟨g, o + q, cp - q, by simp only [Option.map_some, ha], by omega, by omega, ?_⟩
     exact hb.sub q (M - q) (by omega)
theorem Sum_r (v : Value) (M : Nat) (u : Nat → Nat) (w : World) (hM : M ≤ 140737488355328) (hv : Sl w v M u) :
   Calls Tryz.prog 61 #[v] w fun e w' => e = .returned (.agg (yC 64 (sha u M))) ∧ Chg w w' [] := by
 have HML : Hid (M ≤ 140737488356000) := by show M ≤ 140737488356000; omega
 have HWR : Hid (∀ w, Calls Tryz.prog 87 #[] w fun e w' => e = .returned (.agg (vC 8 IV)) ∧ Chg w w' []) := Words_r
 obtain ⟨s, hs⟩ : ∃ s, IV = s := ⟨_, rfl⟩
 have HIV : Hid (IV = s) := hs
 have HUS : Hid (∀ i, i < 8 → U (s i)) := by rw [← hs]; exact IV_lt
 rw [hs] at HWR
 have HVS : Hid ((vC 8 s).size = 8) := vC_size _ _
 have HVO : Hid ((vC 8 s).all (·.oneCell') = true) := vC_one _ _
 obtain ⟨c8s, hc8s⟩ : ∃ c, vC 8 s = c := ⟨_, rfl⟩
 have HVC : Hid (vC 8 s = c8s) := hc8s
 rw [hc8s] at HVS HVO HWR
 obtain ⟨p, cp, rfl, hpf0⟩ := hv.frm
 have G0 := Blk.new w z64 143
 have C0 : Chg w (w.alloc (.cells z64 143)) [] := (Chg.refl w []).alloc _
 have HOV : Hid (∀ x, w.heap.size ≤ x → Off (.slice p M cp) [x]) := fun x hx => hv.new [x] (by simpa using hx)
 have HPW : Hid (∀ g o, p = some ⟨g, o, none⟩ → 0 < M → g < w.heap.size) := fun g o he h0 => by
   obtain ⟨g', o', he', _, _, hb⟩ := hpf0 h0
   rw [he] at he'
   simp only [Option.some.injEq, Addr.mk.injEq] at he'
   have := hb.lt
   omega
 clear hs hc8s hM hpf0
 go_enter Tryz.func61, Tryz.ntmps61
 go_wp2_with fail
 try (change Calls Tryz.prog _ _ (w.alloc (.cells z64 143)) _)
 generalize w.alloc (.cells z64 143) = w0 at *
 refine (HWR.out _).mono ?_
 rintro e w3 ⟨rfl, k3⟩
 have G3 := G0.chg k3 (by simp)
 replace C0 := C0.trans1 k3
 have N3 := Blk.new w3 z8 189
 have HD0 : Hid (w.heap.size < w3.heap.size) := G3.lt
 have K3 : Chg w3 ((w3.alloc (.cells z8 189)).setRow w3.heap.size c8s) [] := ((Chg.refl w3 []).alloc _).setRowNew (Nat.le_refl _) _
 have N4 : Blk ((w3.alloc (.cells z8 189)).setRow w3.heap.size c8s) w3.heap.size (vC 8 s) 189 := (N3.setRow c8s).to HVC.out.symm
 replace G3 := G3.chg K3 (by simp)
 replace C0 := C0.trans1 K3
 have HSL0 := hv.chg C0 (Off.nil _)
 clear k3 K3 G0
 go_wp2_with (refine wpList_store_row rfl 189 _ _ rfl w3.heap.size c8s rfl rfl 189 _ N3 (by rw [HVS.out]; exact S8Info) (by rw [HVS.out]; rfl) HVO.out ?_)
 try (change Code.wp _ _ _ _ ((w3.alloc (.cells z8 189)).setRow w3.heap.size c8s))
 generalize ((w3.alloc (.cells z8 189)).setRow w3.heap.size c8s) = y at *
 generalize w3.heap.size = sb at *
 have HSL : Hid (Sl y (.slice p M cp) M u) := HSL0
 have HSLO : Hid (Off (.slice p M cp) [sb]) := HOV.out sb (by have := HD0.out; omega)
 have HPF : Hid (0 < M → ∃ g o, p = some ⟨g, o, none⟩ ∧ M ≤ cp ∧ cp ≤ 9223372036854775807 ∧ ¬ g = sb ∧ Bs y g o M u) := fun h => by
   obtain ⟨p', cp', he, hpf⟩ := HSL0.frm
   simp only [Value.slice.injEq, true_and] at he
   obtain ⟨rfl, rfl⟩ := he
   obtain ⟨g, o, rfl, h1, h2, h3⟩ := hpf h
   exact ⟨g, o, rfl, h1, h2, fun hx => HSLO.out g o M _ rfl (by simp [hx]), h3⟩
 have HBs : Hid (w.heap.size ≤ sb) := by have := HD0.out; show w.heap.size ≤ sb; omega
 have HD6 : Hid (¬ w.heap.size = sb) := by have := HD0.out; show ¬ w.heap.size = sb; omega
 obtain ⟨gd, hgd⟩ : ∃ b, w.heap.size = b := ⟨_, rfl⟩
 have HBd : Hid (w.heap.size ≤ gd) := Nat.le_of_eq hgd
 rw [hgd] at G3 HD6
 rw [hgd]
 have SB0 : Blk y sb (vC 8 (run KK s u 0)) 189 := N4
 clear N3 N4 HSL0 HVO HVS hgd hv
 go_loopw [4] (fun t wr => ∃ j q : Nat, 128 * j = q ∧ q ≤ M ∧ t = .int .i64 (q : Int) ∧ Blk wr sb (vC 8 (run KK s u j)) 189 ∧ Chg y wr [sb]) (fun t _ => ((M : Int) - intOf t).toNat)
 case atStart => exact ⟨0, 0, rfl, Nat.zero_le _, rfl, SB0, Chg.refl _ _⟩
 case round =>
   clear SB0
   obtain ⟨j, q, hjq, hqM, rfl, b0, c0⟩ := hrel
   by_cases h9 : q + 128 ≤ M
   · have hI2 : (q : Int) + 128 ≤ (M : Int) := by omega
     have e8 : IntKind.i64.wrap ((q : Int) + 128) = (q : Int) + 128 := by have := HML.out; rw [IntKind.wrap_i64]; omega
     have hn8 : ((q : Int) + 128).toNat = q + 128 := by omega
     have hI6 : (0 : Int) ≤ (q : Int) + 128 := by omega
     have hI0 : (0 : Int) ≤ (q : Int) := by omega
     have hI7 : (q : Int) ≤ (q : Int) + 128 := by omega
     obtain ⟨g, o, rfl, hc1, hc2, hgs, hB⟩ := HPF.out (by omega)
     have hI3 : (M : Int) ≤ (cp : Int) := by omega
     have hI5 : (q : Int) + 128 ≤ (cp : Int) := by omega
     have hci : ¬ cp = q := by omega
     have hcpq : 128 ≤ cp - q := by omega
     have BK : Hid (Bs wr g (o + q) 128 (fun i => u (q + i))) := (hB.chg c0 (by simpa using hgs)).sub q 128 h9
     have us := run_lt (k := KK) (u := u) HUS.out j
     have HRN : Hid (vC 8 (run KK s u (j + 1)) = vC 8 (cmp KK (run KK s u j) fun i => u (q + i))) := by subst hjq; rfl
     have HBLK : Hid (∀ w, Bs w g (o + q) 128 (fun i => u (q + i)) → Calls Tryz.prog 88 #[.agg (vC 8 (run KK s u j)), .slice (some ⟨g, o + q, none⟩) 128 (cp - q)] w fun e w' => e = .returned (.agg (vC 8 (cmp KK (run KK s u j) fun i => u (q + i)))) ∧ Chg w w' []) := fun w hb => block_r _ _ g (o + q) (cp - q) w us hcpq hb
     have HSZ : Hid ((vC 8 (run KK s u j)).size = 8) := vC_size _ _
     have HSZ2 : Hid ((vC 8 (cmp KK (run KK s u j) fun i => u (q + i))).size = 8) := vC_size _ _
     have HON : Hid ((vC 8 (cmp KK (run KK s u j) fun i => u (q + i))).all (·.oneCell') = true) := vC_one _ _
     obtain ⟨cs, hcs⟩ : ∃ cs, vC 8 (run KK s u j) = cs := ⟨_, rfl⟩
     obtain ⟨ct, hct⟩ : ∃ ct, vC 8 (cmp KK (run KK s u j) fun i => u (q + i)) = ct := ⟨_, rfl⟩
     rw [hcs, hct] at HBLK
     rw [hcs] at HSZ b0
     rw [hct] at HSZ2 HRN HON
     have HJ : Hid (128 * (j + 1) = q + 128) := by show 128 * (j + 1) = q + 128; omega
     have H9 : Hid (q + 128 ≤ M) := h9
     clear hjq hqM h9 us hcs hct hB hc2
     go_wp2_with fail
     refine wp_region_held_drew (S := fun w' => Chg wr w' [sb]) (by kernel_rfl) ((Chg.refl wr _).drew) (fun hHeld => ?_)
     refine tv ?_ 1 (some 12) rfl (fun w hSw => ?_) hHeld ?_; rotate_left; (· (go_simp; try with_reducible rfl)); try simp only [Act.put, sA]
     refine tv ?_ 2 (some 13) rfl (fun w hSw => ?_) hHeld ?_; rotate_left; (· (go_simp; try with_reducible rfl)); try simp only [Act.put, sA]
     refine tv ?_ 3 (some 14) rfl (fun w hSw => ?_) hHeld ?_; rotate_left; (· (go_simp; try with_reducible rfl)); try simp only [Act.put, sA]
     refine tv ?_ 4 (some 15) rfl (fun w hSw => ?_) hHeld ?_; rotate_left; (· (go_simp; try with_reducible rfl)); try simp only [Act.put, sA]
     refine tv (.slice (some ⟨g, o + q, none⟩) 128 (cp - q)) 5 (some 16) rfl (fun w hSw => ?_) hHeld ?_
     · (go_simp; try omega)
     try simp only [Act.put, sA]
     refine wpAnyH_ready (rs := [0]) (by kernel_rfl) (by simp) ?_
     refine AllReadyH.cons (o := _) rfl (fun K hK => ?_) ?_
     ·
       rw [if_pos (by rfl)]
       refine wp_load_row 189 (.tmp 3) rfl sb rfl 189 cs (0, 0) _ b0.drew Tryz.underlying189 rfl (by rw [HSZ.out]; exact S8Info) ?_
       refine hK.out _ _ hHeld (fun hHeld => ?_)
       clear hK K
       try simp only [Act.put, sA]
       refine wpAnyH_ready (rs := [6]) (by kernel_rfl) (by simp) ?_
       refine AllReadyH.cons (o := _) rfl (fun K hK => ?_) ?_
       ·
         go_simp
         refine (HBLK.out _ (BK.out.chg (Chg.refl wr []).drew (by simp))).mono ?_
         rintro e x1 ⟨rfl, k1⟩
         go_wp2_with fail
         have b1 := b0.drew.chg k1 (by simp)
         refine hK.out _ _ (hHeld.trans1 k1.wide) (fun hHeld => ?_)
         clear hK K k1
         try simp only [Act.put, sA]
         refine wpAnyH_ready (rs := [7]) (by kernel_rfl) (by simp) ?_
         refine AllReadyH.cons (o := _) rfl (fun K hK => ?_) ?_
         ·
           rw [if_pos (by rfl)]
           refine wp_store_row 189 _ _ rfl sb ct rfl rfl 189 _ b1 (by rw [HSZ2.out]; exact S8Info) (by rw [HSZ.out, HSZ2.out]) HON.out ?_
           have hS := hHeld.trans1 (Chg.of (gb_setRow (gb_refl x1 (some sb)) ct))
           refine hK.out _ _ hS (fun hHeld => ?_)
           clear hK K hHeld
           try simp only [Act.put, sA]
           refine wpAnyH_done (by kernel_rfl) ?_ _
           have b2 := b1.setRow ct
           generalize x1.setRow sb ct = x2 at *
           go_wp2_with fail
           exact ⟨⟨j + 1, q + 128, HJ.out, H9.out, by go_num, b2.to HRN.out.symm, c0.trans1 hS⟩, by have := H9.out; simp [intOf]; omega⟩
         exact AllReadyH.nil
       exact AllReadyH.nil
     exact AllReadyH.nil
   · have hI2 : ¬ (q : Int) + 128 ≤ (M : Int) := by omega
     have e8 : IntKind.i64.wrap ((q : Int) + 128) = (q : Int) + 128 := by have := HML.out; rw [IntKind.wrap_i64]; omega
     have HJQ : Hid (128 * j = q ∧ q ≤ M ∧ M < q + 128) := by show 128 * j = q ∧ q ≤ M ∧ M < q + 128; omega
     clear hjq hqM h9
     obtain ⟨S, hS⟩ : ∃ S, run KK s u j = S := ⟨_, rfl⟩
     have HSE : Hid (run KK s u (M / 128) = S) := by show _ = S; rw [← hS]; congr 1; have := HJQ.out; omega
     have hSU : ∀ i, i < 8 → U (S i) := by rw [← hS]; exact run_lt HUS.out j
     rw [hS] at b0
     clear hS
     have hqM : q ≤ M := HJQ.out.2.1
     obtain ⟨rv, hsl, hrv⟩ := from_sl (HSL.out.chg c0 HSLO.out) hqM
     have HMQ : Hid (M - q = M % 128 ∧ q = 128 * (M / 128)) := by have := HJQ.out; show M - q = M % 128 ∧ q = 128 * (M / 128); omega
     have HRV : Hid (Sl wr rv (M - q) (fun i => u (q + i))) := hrv
     have HFIN : Hid (∀ w, Sl w rv (M - q) (fun i => u (q + i)) → Calls Tryz.prog 89 #[.agg (vC 8 S), rv, .int .u64 (M : Int)] w fun e w' => e = .returned (.agg (yC 64 (sha u M))) ∧ Chg w w' []) := fun w h => by
       have q1 := Finish_r S (fun i => u (q + i)) (M - q) M rv w hSU (by have := HML.out; omega) (by have := HMQ.out; omega) h
       have e1 : run KK S (cat (fun i => u (q + i)) (M - q) (pdf M)) ((M - q + (17 + zr M)) / 128) = run KK IV (cat u M (pdf M)) ((M + (17 + zr M)) / 128) := by
         rw [HMQ.out.1, ← HSE.out, ← HIV.out]
         exact run_cat KK IV u (pdf M) (fun i => u (q + i)) M (17 + zr M) (fun j _ => by rw [HMQ.out.2])
       rw [e1] at q1
       exact q1
     have G4 := G3.chg c0 (by simp; have := HD6.out; omega)
     have C1 := C0.new c0 HBs.out
     obtain ⟨cs, hcs⟩ : ∃ cs, vC 8 S = cs := ⟨_, rfl⟩
     have HSz : Hid (cs.size = 8) := by show cs.size = 8; rw [← hcs]; exact vC_size _ _
     obtain ⟨cd, hcd⟩ : ∃ cd, yC 64 (sha u M) = cd := ⟨_, rfl⟩
     have HCD : Hid (cd = yC 64 (sha u M)) := hcd.symm
     have HZ4 : Hid (cd.size = 64) := by show cd.size = 64; rw [← hcd, yC_size]
     have HON : Hid (cd.all (·.oneCell') = true) := by show cd.all (·.oneCell') = true; rw [← hcd]; exact yC_one _ _
     have eM : IntKind.u64.wrap (M : Int) = (M : Int) := by have := HML.out; rw [IntKind.wrap_u64]; omega
     rw [hcs, hcd] at HFIN
     rw [hcs] at b0
     clear hqM hrv c0 hSU hcs hcd HPF
     go_wp2_with fail
     refine wp_region_held_drew (S := fun w' => Chg wr w' [gd]) (by kernel_rfl) ((Chg.refl wr _).drew) (fun hHeld => ?_)
     refine take_load 0 (some 20) cs rfl (by kernel_rfl) (by kernel_rfl) (by kernel_rfl) (fun _ _ _ h => h) rfl rfl 189 _ rfl sb rfl 189 _ (fun w hSw => b0.chg hSw (by simp; have := HD6.out; omega)) Tryz.underlying189 rfl (by rw [HSz.out]; exact S8Info) hHeld ?_
     try simp only [Act.put, sA]
     refine tv ?_ 1 (some 21) rfl (fun w hSw => ?_) hHeld ?_; rotate_left; (· (go_simp; try with_reducible rfl)); try simp only [Act.put, sA]
     refine tv ?_ 2 (some 22) rfl (fun w hSw => ?_) hHeld ?_; rotate_left; (· (go_simp; try with_reducible rfl)); try simp only [Act.put, sA]
     refine tv (rv) 3 (some 23) rfl (fun w hSw => ?_) hHeld ?_
     · (go_simp; try with_reducible rfl)
     try simp only [Act.put, sA]
     refine tv ?_ 4 (some 24) rfl (fun w hSw => ?_) hHeld ?_; rotate_left; (· (go_simp; try with_reducible rfl)); try simp only [Act.put, sA]
     refine tv ?_ 5 (some 25) rfl (fun w hSw => ?_) hHeld ?_; rotate_left; (· (go_simp; try with_reducible rfl)); try simp only [Act.put, sA]
     refine tv ?_ 6 (some 26) rfl (fun w hSw => ?_) hHeld ?_; rotate_left; (· (go_simp; try with_reducible rfl)); try simp only [Act.put, sA]
     refine wpAnyH_ready (rs := [7]) (by kernel_rfl) (by simp) ?_
     refine AllReadyH.cons (o := _) rfl (fun K hK => ?_) ?_
     ·
       go_simp
       refine (HFIN.out _ (HRV.out.chg (Chg.refl wr []).drew (Off.nil _))).mono ?_
       rintro e x1 ⟨rfl, k1⟩
       go_wp2_with fail
       refine hK.out _ _ (hHeld.trans1 k1.wide) (fun hHeld => ?_)
       clear hK K
       try simp only [Act.put, sA]
       refine wpAnyH_ready (rs := [8]) (by kernel_rfl) (by simp) ?_
       refine AllReadyH.cons (o := _) rfl (fun K hK => ?_) ?_
       ·
         rw [if_pos (by rfl)]
         have G1 := G4.drew.chg k1 (by simp)
         refine wp_store_row 143 _ _ rfl gd cd rfl rfl 143 _ G1 (by rw [HZ4.out]; exact DInfo) (by rw [HZ4.out]; rfl) HON.out ?_
         have KSR : Chg x1 (x1.setRow gd cd) [gd] := Chg.of (gb_setRow (gb_refl x1 (some gd)) cd)
         refine hK.out _ _ (hHeld.trans1 KSR) (fun hHeld => ?_)
         clear hK K
         try simp only [Act.put, sA]
         refine wpAnyH_done (by kernel_rfl) ?_ _
         have k0 : Chg wr x1 [] := (Chg.refl wr []).drew.trans1 k1
         go_wp2_with fail
         exact bodyPost_ret (results_cell_row Tryz.results61 _ _ gd 143 cd (0, 0) _ rfl (G1.setRow cd) Tryz.underlying143 rfl (by rw [HZ4.out]; exact DInfo)) rfl ⟨by rw [HCD.out], (C1.trans1 k0).setRowNew HBd.out _⟩
       exact AllReadyH.nil
     exact AllReadyH.nil
end Go.Proofs.YtgjclegpnbjlkaaGreatDoor
