/- (*Hasher).Sum. -/
import Derived.Test.YtgfeopingompdaaGreatDoorH6
set_option linter.unusedVariables false
set_option linter.unusedSimpArgs false
set_option linter.unnecessarySimpa false
namespace Go.Proofs.YtgfeopingompdaaGreatDoor
open Go.RowKit

/-- The bytes of eight words, the highest first. -/
def dig (s : Nat → Nat) : Nat → Nat := fun j => s (j / 8) / 256 ^ (7 - j % 8) % 256
def digt (s : Nat → Nat) (i : Nat) : Nat → Nat := fun j => if j < 8 * i then dig s j else 0
theorem digt_zero (s : Nat → Nat) : yC 64 (digt s 0) = yC 64 fun _ => 0 := yC_eq fun j _ => if_neg (by omega)
theorem digt_all (s : Nat → Nat) : yC 64 (digt s 8) = yC 64 (dig s) := yC_eq fun j hj => if_pos (by omega)
theorem digt_step (s : Nat → Nat) (i : Nat) : pw (digt s i) (8 * i) (s i) = digt s (i + 1) := by
  funext j
  unfold pw digt
  by_cases h : 8 * i ≤ j ∧ j < 8 * i + 8
  · rw [if_pos h, if_pos (by omega)]
    unfold dig
    rw [show j / 8 = i from by omega, show j - 8 * i = j % 8 from by omega]
  · rw [if_neg h]
    by_cases h2 : j < 8 * i
    · rw [if_pos h2, if_pos (by omega)]
    · rw [if_neg h2, if_neg (by omega)]
theorem pdf_lt (n j : Nat) : pdf n j < 256 := by
  unfold pdf pw up
  by_cases h : 9 + zr n ≤ j ∧ j < 9 + zr n + 8
  · rw [if_pos h]; exact Nat.mod_lt _ (by decide)
  · rw [if_neg h]
    by_cases h2 : j = 0
    · rw [if_pos h2]; decide
    · rw [if_neg h2]; exact Nat.zero_lt_succ _
/-- The state behind the filling. -/
def fin (s t : Nat → Nat) (n : Nat) : Nat → Nat := run KK s (cat t (n % 128) (pdf n)) ((n % 128 + (17 + zr n)) / 128)
set_option maxHeartbeats 4000000 in
set_option maxRecDepth 100000 in
theorem Sum_raw (h n : Nat) (s t : Nat → Nat) (w : World) (hG : Gl w) (hn : U n) (hs : ∀ i, i < 8 → U (s i)) (ht : ∀ j, j < 128 → t j < 256) (hh : Blk w h (hC s t n) 212) :
    Calls Tryz.prog 105 #[.pointer (some ⟨h, 0, none⟩)] w fun e w' => e = .returned (.agg (yC 64 (dig (fin s t n)))) ∧ Chg w w' [] := by
  obtain ⟨S, hS⟩ : ∃ S, fin s t n = S := ⟨_, rfl⟩
  have HS : Hid (fin s t n = S) := hS
  rw [hS]
  clear hS
  have hl := hG.lt
  have c1 := hh.cell 136
  have c2 := hh.cell 137
  rw [hC_taken] at c1
  rw [hC_made] at c2
  have hlt := hh.lt
  have K0 := (Chg.refl w []).alloc (.cells z64 145)
  have F0 := Blk.new w z64 145
  have FH := hh.alloc (.cells z64 145)
  have A1 : Blk ((w.alloc (.cells z64 145)).alloc (.cells Tryz.zeroCells212 212)) (w.heap.size + 1) Tryz.zeroCells212 212 := by
    have q := Blk.new (w.alloc (.cells z64 145)) Tryz.zeroCells212 212
    simpa using q
  have F2 : Blk ((((w.alloc (.cells z64 145)).alloc (.cells Tryz.zeroCells212 212)).setRow (w.heap.size + 1) (hC s t n)).alloc (.cells Tryz.zeroCells246 246)) (w.heap.size + 1 + 1) (yC 144 fun _ => 0) 246 := by
    have q := Blk.new (((w.alloc (.cells z64 145)).alloc (.cells Tryz.zeroCells212 212)).setRow (w.heap.size + 1) (hC s t n)) Tryz.zeroCells246 246
    rw [zR] at q ⊢
    simpa using q
  have F1 := (A1.setRow (hC s t n)).alloc (.cells Tryz.zeroCells246 246)
  replace F0 := ((F0.alloc (.cells Tryz.zeroCells212 212)).setRowOther (show w.heap.size ≠ w.heap.size + 1 by omega) (hC s t n)).alloc (.cells Tryz.zeroCells246 246)
  have KW := (((K0.alloc (.cells Tryz.zeroCells212 212)).setRowNew (show w.heap.size ≤ w.heap.size + 1 by omega) (hC s t n)).alloc (.cells Tryz.zeroCells246 246))
  have c3 := ((hh.chg KW (by simp)).cell 136).trans (hC_taken s t n)
  unfold z64 at c3
  go_enter Tryz.func105, Tryz.ntmps105
  go_wp2_with (first | (refine wpList_load_row rfl 212 _ rfl h rfl 212 _ (0, 0) _ FH Tryz.underlying212 rfl (by rw [hC_size]; exact HInfo) ?_) | (refine wpList_store_row rfl 212 _ _ rfl (w.heap.size + 1) _ rfl rfl 212 _ A1 (by rw [hC_size]; exact HInfo) (by rw [hC_size]; exact zHsize) (hC_one _ _ _) ?_))
  clear c3 c1 c2 A1 FH K0
  refine (fill_s (w.heap.size + 1 + 1) n _ hn F2).mono ?_
  rintro e v1 ⟨rfl, R1, k1⟩
  obtain ⟨m, hm⟩ : ∃ m, 17 + zr n = m := ⟨_, rfl⟩
  have hz : zr n < 128 := Nat.mod_lt _ (by decide)
  have hm1 : m ≤ 144 := by omega
  have HM : Hid (17 + zr n = m) := hm
  rw [hm]
  clear hm hz F2
  obtain ⟨y, hy⟩ : ∃ y, w.heap.size = y := ⟨_, rfl⟩
  have HY : Hid (w.heap.size = y) := hy
  rw [hy] at F0 F1 R1 k1 KW hl hlt
  rw [hy]
  clear hy
  replace F0 := F0.chg k1 (by simp; omega)
  replace F1 := F1.chg k1 (by simp)
  have KV : Chg w v1 [] := KW.trans k1 (fun i hi => by have := HY.out; simp at hi; omega)
  have BR : Bs v1 (y + 1 + 1) 0 m (pdf n) := ⟨R1.lt, fun i _ => pdf_lt n i, fun i hi => by rw [Nat.zero_add, R1.cell, yC_get _ _ _ (by omega)]⟩
  clear k1 KW R1
  have hI : (m : Int) ≤ 144 := by omega
  have e4 : IntKind.i64.wrap (m : Int) = (m : Int) := by rw [IntKind.wrap_i64]; omega
  go_wp2_with fail
  refine (Write_g (y + 1) (y + 1 + 1) 0 m 144 n KK s t (pdf n) v1 ((hG.chg KV (by simp) (by simp)).kc) hs ht hn hm1 (by omega) BR F1 (by omega) (by omega)).mono ?_
  rintro e v2 ⟨rfl, k2, t', _, _, B2⟩
  have HF : Hid (S = run KK s (cat t (n % 128) (pdf n)) ((n % 128 + m) / 128)) := by show S = _; rw [← HS.out]; unfold fin; rw [HM.out]
  rw [← HF.out] at B2
  have us : ∀ i, i < 8 → U (S i) := by rw [HF.out]; exact run_lt hs _
  replace F0 := F0.chg k2 (by simp)
  replace KV := KV.trans k2 (fun i hi => by have := HY.out; simp at hi; omega)
  have ylt := F0.lt
  have y1lt := B2.lt
  clear k2 BR F1 HF HM e4 hI
  generalize (n + m) % 18446744073709551616 = n2 at *
  have D0 : Blk (v2.alloc (.cells z64 145)) v2.heap.size (yC 64 (digt S 0)) 145 := (Blk.new v2 z64 145).to (by rw [digt_zero, zD])
  replace F0 := F0.alloc (.cells z64 145)
  replace B2 := B2.alloc (.cells z64 145)
  replace KV := KV.alloc (.cells z64 145)
  go_wp2_with fail
  change Code.wp _ _ _ _ (v2.alloc (.cells z64 145))
  generalize hv3 : v2.alloc (.cells z64 145) = v3 at *
  have dlt := D0.lt
  clear hv3
  go_loopw [27] (fun t wr => ∃ i : Nat, i ≤ 8 ∧ t = .int .i64 (i : Int) ∧ Blk wr v2.heap.size (yC 64 (digt S i)) 145 ∧ Chg v3 wr [v2.heap.size]) (fun t _ => (8 - intOf t).toNat)
  case atStart => exact ⟨0, by omega, rfl, D0, Chg.refl _ _⟩
  case round =>
    obtain ⟨i, hi, rfl, b0, c0⟩ := hrel
    by_cases h8 : i < 8
    · have hI : (i : Int) < 8 := by omega
      have hI2 : (8 : Int) * (i : Int) ≤ 64 := by omega
      have hI0 : (0 : Int) ≤ (8 : Int) * (i : Int) := by omega
      have hw8 : IntKind.i64.wrap (8 * (i : Int)) = 8 * (i : Int) := by rw [IntKind.wrap_i64]; omega
      have hn8 : (8 * (i : Int)).toNat = 8 * i := by omega
      have BF := B2.chg c0 (by simp; omega)
      have cf := BF.cell i
      unfold hC at cf
      rw [Array.getElem?_append_left (by rw [vC_size]; exact h8), vC_get _ _ _ h8] at cf
      go_wp2_with fail
      refine wp_region_held_drew (S := fun w' => Chg wr w' [v2.heap.size]) (by kernel_rfl) ((Chg.refl wr _).drew) (fun hHeld => ?_)
      refine take_val (v := ?_) 0 (some 30) rfl (by kernel_rfl) (by kernel_rfl) (by kernel_rfl) (fun _ _ _ h => h) rfl rfl (fun w hSw => ?_) hHeld ?_
      rotate_left
      · (go_simp; try with_reducible rfl)
      try simp only [Act.put, List.setIfInBounds_toArray, List.set_cons_zero, List.set_cons_succ]
      refine take_val (v := ?_) 1 (some 31) rfl (by kernel_rfl) (by kernel_rfl) (by kernel_rfl) (fun _ _ _ h => h) rfl rfl (fun w hSw => ?_) hHeld ?_
      rotate_left
      · (go_simp; try with_reducible rfl)
      try simp only [Act.put, List.setIfInBounds_toArray, List.set_cons_zero, List.set_cons_succ]
      refine take_val (v := (.slice (some ⟨v2.heap.size, 8 * i, none⟩) (64 - 8 * i) (64 - 8 * i))) 2 (some 32) rfl (by kernel_rfl) (by kernel_rfl) (by kernel_rfl) (fun _ _ _ h => h) rfl rfl (fun w hSw => ?_) hHeld ?_
      · (go_simp; try omega)
      try simp only [Act.put, List.setIfInBounds_toArray, List.set_cons_zero, List.set_cons_succ]
      refine take_val (v := ?_) 3 (some 33) rfl (by kernel_rfl) (by kernel_rfl) (by kernel_rfl) (fun _ _ _ h => h) rfl rfl (fun w hSw => ?_) hHeld ?_
      rotate_left
      · (go_simp; try with_reducible rfl)
      try simp only [Act.put, List.setIfInBounds_toArray, List.set_cons_zero, List.set_cons_succ]
      refine take_val (v := ?_) 4 (some 34) rfl (by kernel_rfl) (by kernel_rfl) (by kernel_rfl) (fun _ _ _ h => h) rfl rfl (fun w hSw => ?_) hHeld ?_
      rotate_left
      · (go_simp; try with_reducible rfl)
      try simp only [Act.put, List.setIfInBounds_toArray, List.set_cons_zero, List.set_cons_succ]
      refine take_val (v := ?_) 5 (some 35) rfl (by kernel_rfl) (by kernel_rfl) (by kernel_rfl) (fun _ _ _ h => h) rfl rfl (fun w hSw => ?_) hHeld ?_
      rotate_left
      · (go_simp; try with_reducible rfl)
      try simp only [Act.put, List.setIfInBounds_toArray, List.set_cons_zero, List.set_cons_succ]
      refine take_val (v := ?_) 6 (some 36) rfl (by kernel_rfl) (by kernel_rfl) (by kernel_rfl) (fun _ _ _ h => h) rfl rfl (fun w hSw => ?_) hHeld ?_
      rotate_left
      · have cg := (BF.chg hSw (by simp; omega)).cell i
        unfold hC at cg
        rw [Array.getElem?_append_left (by rw [vC_size]; exact h8), vC_get _ _ _ h8] at cg
        (go_simp; try with_reducible rfl)
      try simp only [Act.put, List.setIfInBounds_toArray, List.set_cons_zero, List.set_cons_succ]
      refine wpAnyH_ready (rs := [7]) (by kernel_rfl) (by simp) ?_
      refine AllReadyH.cons (o := _) rfl (fun K hK => ?_) ?_
      ·
        go_simp
        refine (putWord_s v2.heap.size (8 * i) (64 - 8 * i) (64 - 8 * i) 64 (digt S i) (S i) 145 _ (by omega) (us i h8) (by omega) b0.drew).mono ?_
        rintro e v4 ⟨rfl, b1, k4⟩
        rw [digt_step] at b1
        go_wp2_with fail
        refine hK.out _ _ (hHeld.trans1 k4) (fun hHeld => ?_)
        clear hK K
        try simp only [Act.put, List.setIfInBounds_toArray, List.set_cons_zero, List.set_cons_succ]
        refine wpAnyH_done (by kernel_rfl) ?_ _
        have c1 := c0.trans1 hHeld
        go_wp2_with fail
        exact ⟨⟨i + 1, by omega, by go_num, b1, c1⟩, by simp [intOf]; omega⟩
      exact AllReadyH.nil
    · have h9 : i = 8 := by omega
      subst h9
      rw [digt_all] at b0
      replace F0 := F0.chg c0 (by simp; omega)
      replace KV := KV.trans c0 (fun i hi => by have := HY.out; simp at hi; omega)
      go_wp2_with (first | (refine wpList_load_row rfl 145 _ rfl v2.heap.size rfl 145 _ (0, 0) _ b0 Tryz.underlying145 rfl (by rw [yC_size]; exact DInfo) ?_) | (refine wpList_store_row rfl 145 _ _ rfl y _ rfl rfl 145 _ F0 (by rw [yC_size]; exact DInfo) (by rw [yC_size]; rfl) (yC_one _ _) ?_))
      exact bodyPost_ret (results_cell_row Tryz.results105 _ _ y 145 (yC 64 (dig S)) (0, 0) _ rfl (F0.setRow _) Tryz.underlying145 rfl (by rw [yC_size]; exact DInfo)) rfl ⟨rfl, KV.setRowNew (by have := HY.out; omega) _⟩
end Go.Proofs.YtgfeopingompdaaGreatDoor
