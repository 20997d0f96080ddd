/- FieldDigits: the walk. -/
import Derived.Test.YtialljmkkichiabFDgM
set_option linter.unusedVariables false
set_option linter.unusedSimpArgs false
set_option linter.unnecessarySimpa false
namespace Go.Proofs.Ytialljmkkichiab
open Go.RowKit N

set_option maxHeartbeats 16000000 in
set_option maxRecDepth 100000 in
theorem digits_walk (hal : ∀ w, Calls Try.prog 9 #[] w fun e w' => e = .returned (.bool true) ∧ Chg w w' []) (v1 v2 : Value) (n m : Nat) (f g : Nat → Nat) (hn : n ≤ 1048576) (hm : m ≤ 1048576) (l : Nat → Nat) (hl : ∀ i, i < 5 → Wo (l i : Int)) (w : World) (h1 : Sl w v1 n f) (h2 : Sl w v2 m g) :
    Calls Try.prog 7 #[v1, v2, .agg (vC 5 l)] w fun e w' => e = .returned (.bool true) ∧ Chg w w' [] := by
  have hge := feGuard
  obtain ⟨p1, c1, rfl⟩ := sl_formd h1
  obtain ⟨p2, c2, rfl⟩ := sl_formd h2
  have HAL : Hid (∀ w, Calls Try.prog 9 #[] w fun e w' => e = .returned (.bool true) ∧ Chg w w' []) := hal
  have HL : Hid (∀ i, i < 5 → Wo (l i : Int)) := hl
  obtain ⟨E, hE⟩ : ∃ E, n * 8 = E := ⟨_, rfl⟩
  have HE2 : Hid (E < 4294967296) := by show E < 4294967296; omega
  have e8 : IntKind.i64.wrap ((n : Int) * 8) = (E : Int) := by rw [IntKind.wrap_i64]; omega
  obtain ⟨ZB, hZB⟩ : ∃ z, ((nb (cat f n g) 0 (n + m) : Nat) : Int) % P = z := ⟨_, rfl⟩
  obtain ⟨Z1, hZ1⟩ : ∃ z, ((nb f 0 n : Nat) : Int) % P = z := ⟨_, rfl⟩
  obtain ⟨Z2, hZ2⟩ : ∃ z, ((nb g 0 m : Nat) : Int) % P = z := ⟨_, rfl⟩
  obtain ⟨PW, hPW⟩ : ∃ z, pw 2 E = z := ⟨_, rfl⟩
  obtain ⟨M2, hM2⟩ : ∃ z, Z2 * PW % P = z := ⟨_, rfl⟩
  obtain ⟨JS, hJS⟩ : ∃ z, hs l 5 % P = z := ⟨_, rfl⟩
  have rZ1 : R256 Z1 := by rw [← hZ1]; exact r256_mod _
  have rZ2 : R256 Z2 := by rw [← hZ2]; exact r256_mod _
  have rPW : R256 PW := by rw [← hPW]; exact r256_mod _
  have rM2 : R256 M2 := by rw [← hM2]; exact r256_mod _
  have hsum : (Z1 + M2) % P = ZB := by have q := digits_eq n m f g; rw [hE, hZB, hZ1, hZ2, hPW, hM2] at q; exact q.symm
  have HB : Hid (∀ w v, Sl w v (n + m) (cat f n g) → Calls Try.prog 27 #[v] w fun e w' => e = .returned (fe ZB) ∧ Chg w w' []) := fun w v h => by rw [← hZB]; exact Reduce_sl v _ _ w h
  have H1 : Hid (∀ w v, Sl w v n f → Calls Try.prog 27 #[v] w fun e w' => e = .returned (fe Z1) ∧ Chg w w' []) := fun w v h => by rw [← hZ1]; exact Reduce_sl v _ _ w h
  have H2 : Hid (∀ w v, Sl w v m g → Calls Try.prog 27 #[v] w fun e w' => e = .returned (fe Z2) ∧ Chg w w' []) := fun w v h => by rw [← hZ2]; exact Reduce_sl v _ _ w h
  have HP : Hid (∀ w b, Blk w b (yC 4 (b4 E)) 5 → Calls Try.prog 17 #[fe 2, .slice (some ⟨b, 0, none⟩) 4 4] w fun e w' => e = .returned (fe PW) ∧ Chg w w' []) := fun w b h => by rw [← hPW]; exact Power_b4 b E HE2.out w h
  have HM2 : Hid (∀ w, Calls Try.prog 14 #[fe Z2, fe PW] w fun e w' => e = .returned (fe M2) ∧ Chg w w' []) := fun w => by rw [← hM2]; exact Mul_fe Z2 PW rZ2 rPW w
  have HAD : Hid (∀ w, Calls Try.prog 11 #[fe Z1, fe M2] w fun e w' => e = .returned (fe ZB) ∧ Chg w w' []) := fun w => by rw [← hsum]; exact Add_fe Z1 M2 rZ1 rM2 w
  have HJ : Hid (∀ w, Calls Try.prog 29 #[.agg (vC 5 l)] w fun e w' => e = .returned (fe JS) ∧ Chg w w' []) := fun w => by rw [← hJS, hs_all]; exact Join_fe _ _ _ _ _ (hl 0 (by omega)) (hl 1 (by omega)) (hl 2 (by omega)) (hl 3 (by omega)) (hl 4 (by omega)) w
  have HST : Hid (∀ k q, k + (q + 1) = 5 → ∃ s1 s2, (∀ w, Calls Try.prog 14 #[fe (hs l k % P), fe 2251799813685248] w fun e w' => e = .returned (fe s1) ∧ Chg w w' []) ∧ (∀ w, Calls Try.prog 10 #[.int .u64 (l q : Int)] w fun e w' => e = .returned (fe (l q : Int)) ∧ Chg w w' []) ∧ (∀ w, Calls Try.prog 11 #[fe s1, fe (l q : Int)] w fun e w' => e = .returned (fe s2) ∧ Chg w w' []) ∧ s2 = hs l (k + 1) % P) := by
    intro k q hq
    have e4 : 4 - k = q := by omega
    have hw := hl q (by omega)
    refine ⟨_, _, fun w => Mul_fe _ _ (r256_mod _) (by unfold R256; decide) w, fun w => FromInt_fe _ hw w, fun w => Add_fe _ _ (r256_mod _) ?_ w, ?_⟩
    · exact ⟨hw.1, by have := hw.2; omega⟩
    · have q1 := hs_step l k
      rw [e4] at q1
      exact q1
  have HC0 : Hid (∀ j, j < 5 → (vC 5 l)[j]? = some (.int .u64 (l j))) := fun j hj => vC_get 5 l j hj
  have HZ0 : Hid (hs l 0 % P = 0) := by show (0 : Int) % P = 0; decide
  have HNM : Hid (n + m ≤ 211106232532992) := by show n + m ≤ 211106232532992; omega
  have HN0 : Hid (0 + n ≤ 211106232532992) := by show 0 + n ≤ 211106232532992; omega
  have u0 : IntKind.u8.wrap (E : Int) = ((b4 E 0 : Nat) : Int) := by rw [IntKind.wrap_u8]; unfold b4; omega
  have u1 : IntKind.u8.wrap ((E : Int) / 2 ^ 8) = ((b4 E 1 : Nat) : Int) := by rw [IntKind.wrap_u8]; unfold b4; omega
  have u2 : IntKind.u8.wrap ((E : Int) / 2 ^ 16) = ((b4 E 2 : Nat) : Int) := by rw [IntKind.wrap_u8]; unfold b4; omega
  have u3 : IntKind.u8.wrap ((E : Int) / 2 ^ 24) = ((b4 E 3 : Nat) : Int) := by rw [IntKind.wrap_u8]; unfold b4; omega
  have LB : Blk (w.alloc (.cells (vC 5 l) 41)) w.heap.size (vC 5 l) 41 := Blk.new w (vC 5 l) 41
  have CC : Chg w (w.alloc (.cells (vC 5 l) 41)) [] := (Chg.refl w []).alloc _
  have S1 := h1.chg CC (Off.nil _)
  have S2 := h2.chg CC (Off.nil _)
  clear h1 h2 hal hl hE hZB hZ1 hZ2 hPW hM2 hsum rZ1 rZ2 rPW rM2 hn hm
  go_enter Try.func7, Try.ntmps7
  go_wp2_with fail
  generalize (w.alloc (.cells (vC 5 l) 41)) = w0 at *
  obtain ⟨lb, hlb⟩ : ∃ b, w.heap.size = b := ⟨_, rfl⟩
  rw [hlb] at LB ⊢
  clear hlb
  refine (HAL.out _).mono ?_
  rintro e w1 ⟨rfl, k⟩
  replace S1 := S1.chg k (Off.nil _)
  replace S2 := S2.chg k (Off.nil _)
  replace LB := LB.chg k (by simp)
  replace CC := CC.trans1 k
  clear k
  go_wp2_with (first
    | (refine append_y rfl (.tmp 15) (.tmp 16) rfl w1.heap.size (.slice none 0 0) (.slice p1 n c1) 0 n f f rfl rfl (Own.nil _ _ f) S1 HN0.out (Nat.le_refl _) ?_; intro a1 w2 O1 q1; rw [Nat.zero_add, cat_zero] at O1; replace q1 : Chg w1 w2 [] := q1; have S2' := S2.chg q1 (Off.nil _))
    | (refine append_y rfl (.tmp 18) (.tmp 19) rfl w1.heap.size a1 (.slice p2 m c2) n m f g rfl rfl O1 S2' HNM.out q1.size ?_; intro a2 w3 O2 q2; replace q2 : Chg w1 w3 [] := q1.trans q2 (fun j hj => Or.inr (O1.ob_ge j hj).1); have SB := O2.sl; replace S1 := S1.chg q2 (Off.nil _); replace S2 := S2.chg q2 (Off.nil _); replace LB := LB.chg q2 (by simp); replace CC := CC.trans1 q2; clear O1 O2 q1 q2 S2')
    | (refine wpList_build_fe rfl 23 _ rfl (feC 2) (by kernel_rfl) ?_)
    | (refine build_b4 rfl (.tmp 26) (.tmp 29) (.tmp 32) (.tmp 35) rfl E rfl rfl rfl rfl ?_))
  refine (HP.out _ _ (Blk.new w3 (yC 4 (b4 E)) 5)).mono ?_
  rintro e w4 ⟨rfl, k⟩
  replace k : Chg w3 w4 [] := ((Chg.refl w3 []).alloc _).trans1 k
  replace S1 := S1.chg k (Off.nil _)
  replace S2 := S2.chg k (Off.nil _)
  replace SB := SB.chg k (Off.nil _)
  replace LB := LB.chg k (by simp)
  replace CC := CC.trans1 k
  clear k
  have G0 := Blk.new w4 z32 23
  have G1 : Blk (((w4.alloc (.cells z32 23)).setRow w4.heap.size (feC PW)).alloc (.cells z32 23)) (w4.heap.size + 1) z32 23 := by have h := Blk.new ((w4.alloc (.cells z32 23)).setRow w4.heap.size (feC PW)) z32 23; simpa using h
  have GS : Blk ((((w4.alloc (.cells z32 23)).setRow w4.heap.size (feC PW)).alloc (.cells z32 23)).setRow (w4.heap.size + 1) (feC 0)) w4.heap.size (feC PW) 23 := ((G0.setRow (feC PW)).alloc _).setRowOther (by omega) _
  have SM : Blk ((((w4.alloc (.cells z32 23)).setRow w4.heap.size (feC PW)).alloc (.cells z32 23)).setRow (w4.heap.size + 1) (feC 0)) (w4.heap.size + 1) (feC 0) 23 := G1.setRow (feC 0)
  have KX : Chg w4 ((((w4.alloc (.cells z32 23)).setRow w4.heap.size (feC PW)).alloc (.cells z32 23)).setRow (w4.heap.size + 1) (feC 0)) [] := ((((Chg.refl w4 []).alloc _).setRowNew (Nat.le_refl _) _).alloc _).setRowNew (by omega) _
  have HO1 : Hid (Off (.slice p1 n c1) [w4.heap.size + 1]) := S1.new _ (by intro i hi; simp at hi; omega)
  have HO2 : Hid (Off (.slice p2 m c2) [w4.heap.size + 1]) := S2.new _ (by intro i hi; simp at hi; omega)
  have HOB : Hid (Off a2 [w4.heap.size + 1]) := SB.new _ (by intro i hi; simp at hi; omega)
  have HLM : Hid (¬ lb ∈ [w4.heap.size + 1]) := by have q := LB.lt; show ¬ lb ∈ [w4.heap.size + 1]; simp; omega
  have HSM : Hid (¬ w4.heap.size ∈ [w4.heap.size + 1]) := by show ¬ w4.heap.size ∈ [w4.heap.size + 1]; simp
  have HGE : Hid (∀ i, i ∈ [w4.heap.size + 1] → w.heap.size ≤ i) := by have q := CC.size; intro i hi; simp at hi; omega
  replace S1 := S1.chg KX (Off.nil _)
  replace S2 := S2.chg KX (Off.nil _)
  replace SB := SB.chg KX (Off.nil _)
  replace LB := LB.chg KX (by simp)
  replace CC := CC.trans1 KX
  clear KX
  go_wp2_with (first
    | (refine wpList_store_row rfl 23 _ _ rfl w4.heap.size (feC PW) rfl rfl 23 _ G0 feInfo rfl (feC_one _) ?_)
    | (refine wpList_build_fe rfl 23 #[] rfl (feC 0) (by kernel_rfl) ?_)
    | (refine wpList_store_row rfl 23 _ _ rfl (w4.heap.size + 1) (feC 0) rfl rfl 23 _ G1 feInfo rfl (feC_one _) ?_))
  clear G0 G1
  try (change Calls Try.prog _ _ ((((w4.alloc (.cells z32 23)).setRow w4.heap.size (feC PW)).alloc (.cells z32 23)).setRow (w4.heap.size + 1) (feC 0)) _)
  generalize ((((w4.alloc (.cells z32 23)).setRow w4.heap.size (feC PW)).alloc (.cells z32 23)).setRow (w4.heap.size + 1) (feC 0)) = x4 at *
  obtain ⟨gs, hgs⟩ : ∃ b, w4.heap.size = b := ⟨_, rfl⟩
  rw [hgs] at GS SM HO1 HO2 HOB HLM HSM HGE ⊢
  clear hgs
  obtain ⟨gm, hgm⟩ : ∃ b, gs + 1 = b := ⟨_, rfl⟩
  rw [hgm] at SM HO1 HO2 HOB HLM HSM HGE ⊢
  clear hgm
  refine (FromInt_fe 2251799813685248 (by unfold Wo; decide) _).mono ?_
  rintro e w5 ⟨rfl, k⟩
  have GP0 := Blk.new w5 z32 23
  have KY : Chg w5 ((w5.alloc (.cells z32 23)).setRow w5.heap.size (feC 2251799813685248)) [] := ((Chg.refl w5 []).alloc _).setRowNew (Nat.le_refl _) _
  have GP : Blk ((w5.alloc (.cells z32 23)).setRow w5.heap.size (feC 2251799813685248)) w5.heap.size (feC 2251799813685248) 23 := GP0.setRow _
  have HPM : Hid (¬ w5.heap.size ∈ [gm]) := by have q := (SM.chg k (by simp)).lt; show ¬ w5.heap.size ∈ [gm]; simp; omega
  replace KY := k.trans1 KY
  replace S1 := S1.chg KY (Off.nil _)
  replace S2 := S2.chg KY (Off.nil _)
  replace SB := SB.chg KY (Off.nil _)
  replace LB := LB.chg KY (by simp)
  replace GS := GS.chg KY (by simp)
  replace SM := SM.chg KY (by simp)
  replace CC := CC.trans1 KY
  clear KY k
  go_wp2_with (refine wpList_store_row rfl 23 _ _ rfl w5.heap.size (feC 2251799813685248) rfl rfl 23 _ GP0 feInfo rfl (feC_one _) ?_)
  clear GP0
  change Code.wp _ _ _ _ ((w5.alloc (.cells z32 23)).setRow w5.heap.size (feC 2251799813685248))
  generalize ((w5.alloc (.cells z32 23)).setRow w5.heap.size (feC 2251799813685248)) = w6 at *
  generalize w5.heap.size = gp at *
  go_loopw [12] (fun t wr => ∃ k q : Nat, k + q = 5 ∧ t = .int .i64 ((q : Int) - 1) ∧ Blk wr gm (feC (hs l k % P)) 23 ∧ Chg w6 wr [gm]) (fun t _ => (intOf t + 1).toNat)
  case atStart => exact ⟨0, 5, rfl, rfl, by rw [HZ0.out]; exact SM, Chg.refl _ _⟩
  case round =>
    clear SM
    obtain ⟨k, q, hkq, rfl, SM, C6⟩ := hrel
    rcases q with _ | q
    · obtain rfl : k = 5 := by omega
      have hI : ¬ (0 : Int) ≤ ((0 : Nat) : Int) - 1 := by omega
      have hI2 : ((0 : Nat) : Int) - 1 < 0 := by omega
      rw [hJS] at SM
      replace S1 := S1.chg C6 HO1.out
      replace S2 := S2.chg C6 HO2.out
      replace SB := SB.chg C6 HOB.out
      replace LB := LB.chg C6 HLM.out
      replace GS := GS.chg C6 HSM.out
      replace CC := CC.trans C6 (fun i hi => Or.inr (HGE.out i hi))
      clear C6 GP hJS e8 u0 u1 u2 u3
      go_wp2_with fail
      refine wp_region_held_drew (S := fun w' => Chg wr w' []) (by kernel_rfl) ((Chg.refl wr _).drew) (fun hHeld => ?_)
      replace S1 := S1.chg (Chg.refl wr []).drew (Off.nil _)
      replace S2 := S2.chg (Chg.refl wr []).drew (Off.nil _)
      replace SB := SB.chg (Chg.refl wr []).drew (Off.nil _)
      refine take_val (v := ?_) 0 (some 52) rfl (by kernel_rfl) (by kernel_rfl) (by kernel_rfl) (fun _ _ _ h => h) rfl rfl (fun w hSw => ?_) hHeld ?_
      rotate_left
      · (go_simp; try with_reducible rfl)
      try simp only [Act.put, List.setIfInBounds_toArray, List.set_cons_zero, List.set_cons_succ]
      refine take_val (v := ?_) 2 (some 54) rfl (by kernel_rfl) (by kernel_rfl) (by kernel_rfl) (fun _ _ _ h => h) rfl rfl (fun w hSw => ?_) hHeld ?_
      rotate_left
      · (go_simp; try with_reducible rfl)
      try simp only [Act.put, List.setIfInBounds_toArray, List.set_cons_zero, List.set_cons_succ]
      refine take_val (v := ?_) 4 (some 56) rfl (by kernel_rfl) (by kernel_rfl) (by kernel_rfl) (fun _ _ _ h => h) rfl rfl (fun w hSw => ?_) hHeld ?_
      rotate_left
      · (go_simp; try with_reducible rfl)
      try simp only [Act.put, List.setIfInBounds_toArray, List.set_cons_zero, List.set_cons_succ]
      refine take_load 6 (some 58) (feC PW) rfl (by kernel_rfl) (by kernel_rfl) (by kernel_rfl) (fun _ _ _ h => h) rfl rfl 23 _ rfl gs rfl 23 _ (fun w h => GS.chg h (by simp)) Try.underlying23 rfl (by first | exact feInfo | kernel_rfl) hHeld ?_
      try simp only [Act.put, List.setIfInBounds_toArray, List.set_cons_zero, List.set_cons_succ]
      refine wpAnyH_ready (rs := [1]) (by kernel_rfl) (by simp) ?_
      refine AllReadyH.cons (o := _) rfl (fun K hK => ?_) ?_
      ·
        go_simp
        refine (HB.out _ _ SB).mono ?_
        rintro e x1 ⟨rfl, k⟩
        replace S1 := S1.chg k (Off.nil _)
        replace S2 := S2.chg k (Off.nil _)
        replace SB := SB.chg k (Off.nil _)
        go_wp2_with fail
        refine hK.out _ _ (hHeld.trans1 k) (fun hHeld => ?_)
        clear hK K
        try simp only [Act.put, List.setIfInBounds_toArray, List.set_cons_zero, List.set_cons_succ]
        clear k
        refine wpAnyH_ready (rs := [3]) (by kernel_rfl) (by simp) ?_
        refine AllReadyH.cons (o := _) rfl (fun K hK => ?_) ?_
        ·
          go_simp
          refine (H1.out _ _ S1).mono ?_
          rintro e x3 ⟨rfl, k⟩
          replace S1 := S1.chg k (Off.nil _)
          replace S2 := S2.chg k (Off.nil _)
          replace SB := SB.chg k (Off.nil _)
          go_wp2_with fail
          refine hK.out _ _ (hHeld.trans1 k) (fun hHeld => ?_)
          clear hK K
          try simp only [Act.put, List.setIfInBounds_toArray, List.set_cons_zero, List.set_cons_succ]
          clear k
          refine wpAnyH_ready (rs := [5]) (by kernel_rfl) (by simp) ?_
          refine AllReadyH.cons (o := _) rfl (fun K hK => ?_) ?_
          ·
            go_simp
            refine (H2.out _ _ S2).mono ?_
            rintro e x5 ⟨rfl, k⟩
            replace S1 := S1.chg k (Off.nil _)
            replace S2 := S2.chg k (Off.nil _)
            replace SB := SB.chg k (Off.nil _)
            go_wp2_with fail
            refine hK.out _ _ (hHeld.trans1 k) (fun hHeld => ?_)
            clear hK K
            try simp only [Act.put, List.setIfInBounds_toArray, List.set_cons_zero, List.set_cons_succ]
            clear k
            refine wpAnyH_ready (rs := [7]) (by kernel_rfl) (by simp) ?_
            refine AllReadyH.cons (o := _) rfl (fun K hK => ?_) ?_
            ·
              go_simp
              refine (HM2.out _).mono ?_
              rintro e x7 ⟨rfl, k⟩
              replace S1 := S1.chg k (Off.nil _)
              replace S2 := S2.chg k (Off.nil _)
              replace SB := SB.chg k (Off.nil _)
              go_wp2_with fail
              refine hK.out _ _ (hHeld.trans1 k) (fun hHeld => ?_)
              clear hK K
              try simp only [Act.put, List.setIfInBounds_toArray, List.set_cons_zero, List.set_cons_succ]
              clear k
              refine wpAnyH_ready (rs := [8]) (by kernel_rfl) (by simp) ?_
              refine AllReadyH.cons (o := _) rfl (fun K hK => ?_) ?_
              ·
                go_simp
                refine (HAD.out _).mono ?_
                rintro e x8 ⟨rfl, k⟩
                replace S1 := S1.chg k (Off.nil _)
                replace S2 := S2.chg k (Off.nil _)
                replace SB := SB.chg k (Off.nil _)
                go_wp2_with fail
                refine hK.out _ _ (hHeld.trans1 k) (fun hHeld => ?_)
                clear hK K
                try simp only [Act.put, List.setIfInBounds_toArray, List.set_cons_zero, List.set_cons_succ]
                clear k
                refine take_val (v := (.bool true)) 9 (some 61) rfl (by kernel_rfl) (by kernel_rfl) (by kernel_rfl) (fun _ _ _ h => h) rfl rfl (fun w hSw => ?_) hHeld ?_
                · (go_simp; try with_reducible rfl)
                try simp only [Act.put, List.setIfInBounds_toArray, List.set_cons_zero, List.set_cons_succ]
                refine take_val (v := ?_) 10 (some 62) rfl (by kernel_rfl) (by kernel_rfl) (by kernel_rfl) (fun _ _ _ h => h) rfl rfl (fun w hSw => ?_) hHeld ?_
                rotate_left
                · (go_simp; try with_reducible rfl)
                try simp only [Act.put, List.setIfInBounds_toArray, List.set_cons_zero, List.set_cons_succ]
                refine take_load 11 (some 63) (vC 5 l) rfl (by kernel_rfl) (by kernel_rfl) (by kernel_rfl) (fun _ _ _ h => h) rfl rfl 41 _ rfl lb rfl 41 _ (fun w h => LB.chg h (by simp)) Try.underlying41 rfl (by first | exact feInfo | kernel_rfl) hHeld ?_
                try simp only [Act.put, List.setIfInBounds_toArray, List.set_cons_zero, List.set_cons_succ]
                refine take_load 13 (some 65) (feC JS) rfl (by kernel_rfl) (by kernel_rfl) (by kernel_rfl) (fun _ _ _ h => h) rfl rfl 23 _ rfl gm rfl 23 _ (fun w h => SM.chg h (by simp)) Try.underlying23 rfl (by first | exact feInfo | kernel_rfl) hHeld ?_
                try simp only [Act.put, List.setIfInBounds_toArray, List.set_cons_zero, List.set_cons_succ]
                refine wpAnyH_ready (rs := [12]) (by kernel_rfl) (by simp) ?_
                refine AllReadyH.cons (o := _) rfl (fun K hK => ?_) ?_
                ·
                  go_simp
                  refine (HJ.out _).mono ?_
                  rintro e x12 ⟨rfl, k⟩
                  replace S1 := S1.chg k (Off.nil _)
                  replace S2 := S2.chg k (Off.nil _)
                  replace SB := SB.chg k (Off.nil _)
                  go_wp2_with fail
                  refine hK.out _ _ (hHeld.trans1 k) (fun hHeld => ?_)
                  clear hK K
                  try simp only [Act.put, List.setIfInBounds_toArray, List.set_cons_zero, List.set_cons_succ]
                  clear k
                  refine take_val (v := (.bool true)) 14 (some 66) rfl (by kernel_rfl) (by kernel_rfl) (by kernel_rfl) (fun _ _ _ h => h) rfl rfl (fun w hSw => ?_) hHeld ?_
                  · (go_simp; try with_reducible rfl)
                  try simp only [Act.put, List.setIfInBounds_toArray, List.set_cons_zero, List.set_cons_succ]
                  refine take_val (v := ?_) 15 (some 67) rfl (by kernel_rfl) (by kernel_rfl) (by kernel_rfl) (fun _ _ _ h => h) rfl rfl (fun w hSw => ?_) hHeld ?_
                  rotate_left
                  · (go_simp; try with_reducible rfl)
                  try simp only [Act.put, List.setIfInBounds_toArray, List.set_cons_zero, List.set_cons_succ]
                  refine take_val (v := ?_) 16 (some 6) rfl (by kernel_rfl) (by kernel_rfl) (by kernel_rfl) (fun _ _ _ h => h) rfl rfl (fun w hSw => ?_) hHeld ?_
                  rotate_left
                  · (go_simp; try with_reducible rfl)
                  try simp only [Act.put, List.setIfInBounds_toArray, List.set_cons_zero, List.set_cons_succ]
                  refine wpAnyH_done (by kernel_rfl) ?_ _
                  go_wp2_with fail
                  go_ret
                  exact ⟨rfl, CC.trans1 hHeld⟩
                exact AllReadyH.nil
              exact AllReadyH.nil
            exact AllReadyH.nil
          exact AllReadyH.nil
        exact AllReadyH.nil
      exact AllReadyH.nil
    · rw [show ((q + 1 : Nat) : Int) - 1 = (q : Int) by omega]
      have hI : (0 : Int) ≤ (q : Int) := by omega
      have hI2 : (q : Int) < 5 := by omega
      have e1 : IntKind.i64.wrap ((q : Int) - 1) = (q : Int) - 1 := by rw [IntKind.wrap_i64]; omega
      obtain ⟨s1, s2, hm1, hf1, ha1, hs2⟩ := HST.out k q hkq
      have CL : Hid (∀ w', Chg wr w' [gm] → w'.cell? ⟨lb, q, none⟩ = some (.int .u64 (l q : Int))) := fun w' h => by rw [((LB.chg C6 HLM.out).chg h HLM.out).cell]; exact HC0.out q (by omega)
      replace GP := GP.chg C6 HPM.out
      obtain ⟨sk, hsk⟩ : ∃ x, hs l k % P = x := ⟨_, rfl⟩
      rw [hsk] at hm1 SM
      obtain ⟨xq, hxq⟩ : ∃ x, l q = x := ⟨_, rfl⟩
      rw [hxq] at hf1 ha1 CL
      have HM1 : Hid (∀ w, Calls Try.prog 14 #[fe sk, fe 2251799813685248] w fun e w' => e = .returned (fe s1) ∧ Chg w w' []) := hm1
      have HF1 : Hid (∀ w, Calls Try.prog 10 #[.int .u64 (xq : Int)] w fun e w' => e = .returned (fe (xq : Int)) ∧ Chg w w' []) := hf1
      have HA1 : Hid (∀ w, Calls Try.prog 11 #[fe s1, fe (xq : Int)] w fun e w' => e = .returned (fe s2) ∧ Chg w w' []) := ha1
      have HS2 : Hid (s2 = hs l (k + 1) % P) := hs2
      have HKQ : Hid (k + 1 + q = 5) := by show k + 1 + q = 5; omega
      have HMs : Hid ((intOf (.int .i64 ((q : Int) - 1)) + 1).toNat < (intOf (.int .i64 (q : Int)) + 1).toNat) := by show (intOf (.int .i64 ((q : Int) - 1)) + 1).toNat < (intOf (.int .i64 (q : Int)) + 1).toNat; simp [intOf] <;> omega
      clear hm1 hf1 ha1 hs2 hsk hxq hkq hJS e8 u0 u1 u2 u3 S1 S2 SB LB GS CC
      go_wp2_with fail
      refine wp_region_held_drew (S := fun w' => Chg wr w' [gm]) (by kernel_rfl) ((Chg.refl wr _).drew) (fun hHeld => ?_)
      replace SM := SM.drew
      replace C6 := C6.drew
      refine take_load 1 (some 45) (feC 2251799813685248) rfl (by kernel_rfl) (by kernel_rfl) (by kernel_rfl) (fun _ _ _ h => h) rfl rfl 23 _ rfl gp rfl 23 _ (fun w h => GP.chg h HPM.out) Try.underlying23 rfl (by first | exact feInfo | kernel_rfl) hHeld ?_
      try simp only [Act.put, List.setIfInBounds_toArray, List.set_cons_zero, List.set_cons_succ]
      refine take_val (v := (.int .i64 (q : Int))) 3 (some 47) rfl (by kernel_rfl) (by kernel_rfl) (by kernel_rfl) (fun _ _ _ h => h) rfl rfl (fun w hSw => ?_) hHeld ?_
      · (go_simp; try with_reducible rfl)
      try simp only [Act.put, List.setIfInBounds_toArray, List.set_cons_zero, List.set_cons_succ]
      refine take_val (v := ?_) 4 (some 48) rfl (by kernel_rfl) (by kernel_rfl) (by kernel_rfl) (fun _ _ _ h => h) rfl rfl (fun w hSw => ?_) hHeld ?_
      rotate_left
      · (go_simp; try with_reducible rfl)
      try simp only [Act.put, List.setIfInBounds_toArray, List.set_cons_zero, List.set_cons_succ]
      refine take_val (v := (.int .u64 (xq : Int))) 5 (some 49) rfl (by kernel_rfl) (by kernel_rfl) (by kernel_rfl) (fun _ _ _ h => h) rfl rfl (fun w hSw => ?_) hHeld ?_
      · have c4 := CL.out w hSw
        (go_simp; try with_reducible rfl)
      try simp only [Act.put, List.setIfInBounds_toArray, List.set_cons_zero, List.set_cons_succ]
      refine wpAnyH_ready (rs := [0]) (by kernel_rfl) (by simp) ?_
      refine AllReadyH.cons (o := _) rfl (fun K hK => ?_) ?_
      ·
        rw [if_pos (by rfl)]
        refine wp_load_row 23 _ rfl gm rfl 23 _ (0, 0) _ SM Try.underlying23 rfl feInfo ?_
        refine hK.out _ _ (hHeld) (fun hHeld => ?_)
        clear hK K
        try simp only [Act.put, List.setIfInBounds_toArray, List.set_cons_zero, List.set_cons_succ]
        refine wpAnyH_ready (rs := [2]) (by kernel_rfl) (by simp) ?_
        refine AllReadyH.cons (o := _) rfl (fun K hK => ?_) ?_
        ·
          go_simp
          refine (HM1.out _).mono ?_
          rintro e z2 ⟨rfl, k⟩
          replace SM := SM.chg k (by simp)
          replace C6 := C6.trans1 k.wide
          go_wp2_with fail
          refine hK.out _ _ (hHeld.trans1 k.wide) (fun hHeld => ?_)
          clear hK K
          try simp only [Act.put, List.setIfInBounds_toArray, List.set_cons_zero, List.set_cons_succ]
          clear k
          refine wpAnyH_ready (rs := [6]) (by kernel_rfl) (by simp) ?_
          refine AllReadyH.cons (o := _) rfl (fun K hK => ?_) ?_
          ·
            go_simp
            refine (HF1.out _).mono ?_
            rintro e z6 ⟨rfl, k⟩
            replace SM := SM.chg k (by simp)
            replace C6 := C6.trans1 k.wide
            go_wp2_with fail
            refine hK.out _ _ (hHeld.trans1 k.wide) (fun hHeld => ?_)
            clear hK K
            try simp only [Act.put, List.setIfInBounds_toArray, List.set_cons_zero, List.set_cons_succ]
            clear k
            refine wpAnyH_ready (rs := [7]) (by kernel_rfl) (by simp) ?_
            refine AllReadyH.cons (o := _) rfl (fun K hK => ?_) ?_
            ·
              go_simp
              refine (HA1.out _).mono ?_
              rintro e z7 ⟨rfl, k⟩
              replace SM := SM.chg k (by simp)
              replace C6 := C6.trans1 k.wide
              go_wp2_with fail
              refine hK.out _ _ (hHeld.trans1 k.wide) (fun hHeld => ?_)
              clear hK K
              try simp only [Act.put, List.setIfInBounds_toArray, List.set_cons_zero, List.set_cons_succ]
              clear k
              refine wpAnyH_ready (rs := [8]) (by kernel_rfl) (by simp) ?_
              refine AllReadyH.cons (o := _) rfl (fun K hK => ?_) ?_
              ·
                rw [if_pos (by rfl)]
                refine wp_store_row 23 _ _ rfl gm _ rfl rfl 23 _ SM feInfo rfl (feC_one _) ?_
                refine hK.out _ _ (hHeld.trans1 (Chg.of (gb_setRow (gb_refl _ _) _))) (fun hHeld => ?_)
                clear hK K
                try simp only [Act.put, List.setIfInBounds_toArray, List.set_cons_zero, List.set_cons_succ]
                refine wpAnyH_done (by kernel_rfl) ?_ _
                go_wp2_with fail
                exact ⟨⟨k + 1, q, HKQ.out, rfl, by rw [← HS2.out]; exact SM.setRow (feC s2), C6.trans1 (Chg.of (gb_setRow (gb_refl _ _) _))⟩, HMs.out⟩
              exact AllReadyH.nil
            exact AllReadyH.nil
          exact AllReadyH.nil
        exact AllReadyH.nil
      exact AllReadyH.nil
end Go.Proofs.Ytialljmkkichiab
