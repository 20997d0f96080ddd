/- rimeref02.Legendre. -/
import Derived.Test.YtcdgkhejbdlapaaRPower
set_option linter.unusedVariables false
set_option linter.unusedSimpArgs false
set_option linter.unnecessarySimpa false
namespace Go.Proofs.Ytcdgkhejbdlapaa
open Go.RowKit N

theorem dg_half (n i : Nat) : dg (n / 2) i = dg n i / 2 + 2147483648 * (dg n (i + 1) % 2) := by
  unfold dg
  rw [Nat.div_div_eq_div_mul, Nat.mul_comm 2, ← Nat.div_div_eq_div_mul, Nat.pow_succ, ← Nat.div_div_eq_div_mul]
  generalize n / 4294967296 ^ i = X
  omega
theorem or_half (x y : Nat) (hx : x < 4294967296) (hy : y < 4294967296) : bits .or .u32 (((x / 2 : Nat) : Int)) (((y : Nat) : Int) * 2147483648 % 4294967296) = ((x / 2 + 2147483648 * (y % 2) : Nat) : Int) := by
  have e : ((y : Nat) : Int) * 2147483648 % 4294967296 = ((2147483648 * (y % 2) : Nat) : Int) := by omega
  rw [e, u32_or_nat (x / 2) (2147483648 * (y % 2)) (by omega) (by omega), Nat.or_comm, nat_join 31 (2147483648 * (y % 2)) (x / 2) (by omega) (by omega), Nat.add_comm]
/-- The digit i of m taken halved, but for what comes from the next. -/
def mixh (m n i : Nat) : Nat → Nat := upd (mix m n i) i (dg n i / 2)
theorem mixh_at (m n i : Nat) : mixh m n i i = dg n i / 2 := upd_same _ _ _
theorem mixh_next (m n i : Nat) : mixh m n i (i + 1) = dg n (i + 1) := by unfold mixh; rw [upd_other _ _ _ _ (by omega)]; exact if_neg (by omega)
theorem mixh_step (m n i : Nat) : upd (mixh m n i) i (dg m i) = mix m n (i + 1) := by
  rw [← mix_step]
  unfold mixh
  funext j
  unfold upd
  split <;> rfl
/-- What Legendre answers of the power. -/
def lgr (X : Int) : Int := if eqf X 0 then 0 else if eqf X 1 then 1 else -1
theorem lgr_z {X : Int} (h : eqf X 0 = true) : lgr X = 0 := by unfold lgr; rw [h]; rfl
theorem lgr_o {X : Int} (h : eqf X 0 = false) (h1 : eqf X 1 = true) : lgr X = 1 := by unfold lgr; rw [h, h1]; rfl
theorem lgr_m {X : Int} (h : eqf X 0 = false) (h1 : eqf X 1 = false) : lgr X = -1 := by unfold lgr; rw [h, h1]; rfl
theorem half_num : (LN - 1) / 2 = 3618502788666131106986593281521497120428558179689953803000975469142727125494 := by unfold LN; decide
set_option maxHeartbeats 4000000 in
set_option maxRecDepth 100000 in
theorem Legendre_r (n : Nat) (hn : n < 115792089237316195423570985008687907853269984665640564039457584007913129639936) (w : World) :
    Calls Try.prog 44 #[fe (n : Int)] w fun e w' => e = .returned (.int .i64 (lgr ((pN n 3618502788666131106986593281521497120428558179689953803000975469142727125494 : Nat) : Int))) ∧ Chg w w' [] := by
  have hge := feGuard
  obtain ⟨X, hX⟩ : ∃ X, pN n 3618502788666131106986593281521497120428558179689953803000975469142727125494 = X := ⟨_, rfl⟩
  rw [hX]
  obtain ⟨N1, hN1⟩ : ∃ N1, LN - 1 = N1 := ⟨_, rfl⟩
  obtain ⟨HF, hHF⟩ : ∃ HF, N1 / 2 = HF := ⟨_, rfl⟩
  have HP : Hid (pN n (nb (bof (HF : Int)) 0 32) = X) := by
    show pN n (nb (bof (HF : Int)) 0 32) = X
    rw [nb_bof HF (by rw [← hHF, ← hN1, half_num]; decide), ← hHF, ← hN1, half_num, hX]
  have HM : Hid (∀ i, dg HF i = dg N1 i / 2 + 2147483648 * (dg N1 (i + 1) % 2)) := show ∀ i, dg HF i = dg N1 i / 2 + 2147483648 * (dg N1 (i + 1) % 2) from fun i => by rw [← hHF]; exact dg_half N1 i
  have H7 : Hid (dg HF 7 = dg N1 7 / 2) := by
    show dg HF 7 = dg N1 7 / 2
    rw [HM.out 7, show dg N1 (7 + 1) = 0 from by rw [← hN1]; unfold LN; decide +kernel, Nat.zero_mod, Nat.mul_zero, Nat.add_zero]
  have HN : Hid (LN - 1 = N1) := hN1
  clear hX hHF hN1
  have F0 : Blk (w.alloc (.cells (feC (n : Int)) 24)) w.heap.size (feC (n : Int)) 24 := Blk.new w _ _
  have CC : Chg w (w.alloc (.cells (feC (n : Int)) 24)) [] := (Chg.refl w []).alloc _
  go_enter Try.func44, Try.ntmps44
  go_wp2_with fail
  refine (Order_r _).mono ?_
  rintro e v1 ⟨rfl, k⟩
  replace F0 := F0.chg k (by simp)
  replace CC := CC.trans1 k
  clear k
  go_wp2_with (refine gl_build (by rfl) 97 #[(0, .const (.int .u32 1))] rfl (dC 1) (by kernel_rfl) ?_)
  refine (minus_r LN 1 (by unfold LN; decide) _).mono ?_
  rintro e v2 ⟨rfl, k⟩
  rw [HN.out]
  replace F0 := F0.chg k (by simp)
  replace CC := CC.trans1 k
  clear k
  have hle : w.heap.size < v2.heap.size := F0.lt
  have A := Blk.new v2 z8u 97
  have F0' := (F0.alloc (.cells z8u 97)).setRowOther (show ¬ w.heap.size = v2.heap.size by have := F0.lt; omega) (dC N1)
  have CC' := (CC.alloc (.cells z8u 97)).setRowNew CC.size (dC N1)
  go_wp2_with (refine wpList_store_row rfl 97 _ _ rfl v2.heap.size (dC N1) rfl rfl 97 _ A (by rw [dC_size]; exact NumInfo) (by rw [dC_size]; try rfl) (dC_one _) ?_)
  replace A := A.setRow (dC N1)
  clear F0 CC
  have F0 := F0'
  have CC := CC'
  clear F0' CC'
  change Code.wp _ _ _ _ ((v2.alloc (.cells z8u 97)).setRow v2.heap.size (dC N1))
  generalize (v2.alloc (.cells z8u 97)).setRow v2.heap.size (dC N1) = v3 at *
  generalize v2.heap.size = gb at *
  rw [← mix_zero HF N1] at A
  go_loopw [4] (fun t wr => ∃ i : Nat, i ≤ 8 ∧ t = .int .i64 (i : Int) ∧ Blk wr gb (uC 8 (mix HF N1 i)) 97 ∧ Blk wr w.heap.size (feC (n : Int)) 24 ∧ Chg w wr []) (fun t _ => (8 - intOf t).toNat)
  case atStart => exact ⟨0, by omega, rfl, A, F0, CC⟩
  case round =>
    obtain ⟨i, hi, rfl, b0, b1, c0⟩ := hrel
    clear A F0 CC
    by_cases h8 : i < 8
    · have hI : (i : Int) < 8 := by omega
      have cA := (b0.cell i).trans ((uC_get 8 (mix HF N1 i) i h8).trans (by rw [mix_at]))
      have fA := b0.frozen i
      have hdv : ((dg N1 i : Nat) : Int) / 2 = ((dg N1 i / 2 : Nat) : Int) := by omega
      have bm : Blk (wr.setCell ⟨gb, i, none⟩ (.int .u32 ((dg N1 i / 2 : Nat) : Int))) gb (uC 8 (mixh HF N1 i)) 97 := (b0.setCell i _).to (by rw [uC_set]; unfold mixh; rfl)
      have b1m := b1.setOther (show ¬ w.heap.size = gb by omega) i (.int .u32 ((dg N1 i / 2 : Nat) : Int))
      have cm := c0.setNew (show w.heap.size ≤ gb by omega) i (.int .u32 ((dg N1 i / 2 : Nat) : Int))
      by_cases h7 : i < 7
      · have hI7 : (i : Int) < 7 := by omega
        have hI8 : (i : Int) + 1 < 8 := by omega
        have hw1 : IntKind.i64.wrap ((i : Int) + 1) = ((i + 1 : Nat) : Int) := by rw [IntKind.wrap_i64]; omega
        have hI9 : ((i + 1 : Nat) : Int) < 8 := by omega
        obtain ⟨d, hd⟩ : ∃ d, dg N1 i / 2 = d := ⟨_, rfl⟩
        obtain ⟨d2, hd2⟩ : ∃ d2, dg N1 (i + 1) = d2 := ⟨_, rfl⟩
        have ho := or_half (dg N1 i) d2 (dg_lt _ _) (by rw [← hd2]; exact dg_lt _ _)
        rw [← hd2, ← HM.out i, hd2, hd] at ho
        have cB := (bm.cell i).trans ((uC_get 8 (mixh HF N1 i) i h8).trans (by rw [mixh_at]))
        have cC := (bm.cell (i + 1)).trans ((uC_get 8 (mixh HF N1 i) (i + 1) (by omega)).trans (by rw [mixh_next]))
        have fB := bm.frozen i
        rw [hd] at cB cC fB hdv bm b1m cm
        rw [hd2] at cC
        have bn : Blk ((wr.setCell ⟨gb, i, none⟩ (.int .u32 ((d : Nat) : Int))).drew.setCell ⟨gb, i, none⟩ (.int .u32 ((dg HF i : Nat) : Int))) gb (uC 8 (mix HF N1 (i + 1))) 97 := (bm.drew.setCell i _).to (by rw [uC_set, mixh_step])
        have b1n := b1m.drew.setOther (show ¬ w.heap.size = gb by omega) i (.int .u32 ((dg HF i : Nat) : Int))
        have cn := cm.drew.setNew (show w.heap.size ≤ gb by omega) i (.int .u32 ((dg HF i : Nat) : Int))
        clear b0 b1 c0 HM HN H7 HP
        go_wp2_with fail
        generalize hwm : wr.setCell ⟨gb, i, none⟩ (.int .u32 ((d : Nat) : Int)) = wm at *
        go_region
        go_wp2_with fail
        exact ⟨⟨i + 1, by omega, by go_num, bn, b1n, cn⟩, by simp [intOf]; omega⟩
      · have hI7 : ¬ (i : Int) < 7 := by omega
        have H7i : Hid (dg HF i = dg N1 i / 2) := by
          have h9 : i = 7 := by omega
          subst h9
          exact H7
        have bn : Blk (wr.setCell ⟨gb, i, none⟩ (.int .u32 ((dg N1 i / 2 : Nat) : Int))) gb (uC 8 (mix HF N1 (i + 1))) 97 := bm.to (by have e := mix_step HF N1 i; rw [H7i.out] at e; unfold mixh; rw [e])
        obtain ⟨d, hd⟩ : ∃ d, dg N1 i / 2 = d := ⟨_, rfl⟩
        rw [hd] at hdv bn b1m cm
        clear b0 b1 c0 HM HN H7 HP bm H7i hd
        go_wp2_with fail
        exact ⟨⟨i + 1, by omega, by go_num, bn, b1m, cm⟩, by simp [intOf]; omega⟩
    · have h9 : i = 8 := by omega
      subst h9
      rw [mix_all] at b0
      go_wp2_with (refine wpList_load_row rfl 97 _ rfl gb rfl 97 _ (0, 0) _ b0 Try.underlying97 rfl (by rw [dC_size]; exact NumInfo) ?_)
      refine (Back_r HF _).mono ?_
      rintro e v4 ⟨rfl, k⟩
      have F0 := b1.chg k (by simp)
      have CC := c0.trans1 k
      clear k b0 b1 c0
      have EB := Blk.new v4 z32 24
      have F1 := (F0.alloc (.cells z32 24)).setRowOther (show ¬ w.heap.size = v4.heap.size by have := F0.lt; omega) (feC (HF : Int))
      have C1 := (CC.alloc (.cells z32 24)).setRowNew CC.size (feC (HF : Int))
      go_wp2_with (refine wpList_store_row rfl 24 _ _ rfl v4.heap.size _ rfl rfl 24 _ EB feInfo rfl (feC_one _) ?_)
      replace EB := EB.setRow (feC (HF : Int))
      clear F0 CC
      have F0 := F1
      have CC := C1
      clear F1 C1
      change Code.wp _ _ _ _ ((v4.alloc (.cells z32 24)).setRow v4.heap.size (feC (HF : Int)))
      generalize (v4.alloc (.cells z32 24)).setRow v4.heap.size (feC (HF : Int)) = v5 at *
      generalize v4.heap.size = eb at *
      refine wp_region_held_drew (S := fun w' => Chg v5 w' []) (by kernel_rfl) ((Chg.refl v5 _).drew) (fun hHeld => ?_)
      refine take_load 0 (some 35) (feC (n : Int)) rfl (by kernel_rfl) (by kernel_rfl) (by kernel_rfl) (fun _ _ _ h => h) rfl rfl 24 _ rfl w.heap.size rfl 24 _ (fun w h => F0.chg h (by simp)) Try.underlying24 rfl (by first | exact feInfo | kernel_rfl) hHeld ?_
      try simp only [Act.put, List.setIfInBounds_toArray, List.set_cons_zero, List.set_cons_succ]
      refine take_val (v := (.slice (some ⟨eb, 0, none⟩) 32 32)) 1 (some 36) rfl (by kernel_rfl) (by kernel_rfl) (by kernel_rfl) (fun _ _ _ h => h) rfl rfl (fun w hSw => ?_) hHeld ?_
      · (go_simp; try with_reducible rfl)
      try simp only [Act.put, List.setIfInBounds_toArray, List.set_cons_zero, List.set_cons_succ]
      refine wpAnyH_ready (rs := [2, 3]) (by kernel_rfl) (by simp) ?_
      refine AllReadyH.cons (o := _) rfl (fun K hK => ?_) ?_
      ·
        go_simp
        refine (Power_r n hn eb 0 32 32 (bof (HF : Int)) (by decide) _ (Bs.ofFe (EB.chg hHeld (by simp)))).mono ?_
        rintro e x2 ⟨rfl, k⟩
        rw [HP.out]
        have hsz : v5.heap.size ≤ x2.heap.size := (hHeld.trans1 k).size
        go_wp2_with fail
        refine hK.out _ _ (hHeld.trans1 k) (fun hHeld => ?_)
        clear hK K
        try simp only [Act.put, List.setIfInBounds_toArray, List.set_cons_zero, List.set_cons_succ]
        clear k
        refine wpAnyH_ready (rs := [3]) (by kernel_rfl) (by simp) ?_
        refine AllReadyH.cons (o := _) rfl (fun K hK => ?_) ?_
        ·
          rw [if_pos (by rfl)]
          go_simp
          refine hK.out _ _ (hHeld.alloc _) (fun hHeld => ?_)
          clear hK K
          try simp only [Act.put, List.setIfInBounds_toArray, List.set_cons_zero, List.set_cons_succ]
          have RB := Blk.new x2 z32 24
          have nbl : v5.heap.size ≤ x2.heap.size := hsz
          clear hsz
          generalize hnb : x2.heap.size = rb at *
          clear hnb
          refine wpAnyH_ready (rs := [4]) (by kernel_rfl) (by simp) ?_
          refine AllReadyH.cons (o := _) rfl (fun K hK => ?_) ?_
          ·
            rw [if_pos (by rfl)]
            refine wp_store_row 24 _ _ rfl rb _ rfl rfl 24 _ RB feInfo rfl (feC_one _) ?_
            refine hK.out _ _ (hHeld.setRowNew nbl _) (fun hHeld => ?_)
            clear hK K
            try simp only [Act.put, List.setIfInBounds_toArray, List.set_cons_zero, List.set_cons_succ]
            refine wpAnyH_done (by kernel_rfl) ?_ _
            replace RB := RB.setRow (feC ((X : Nat) : Int))
            replace CC := CC.trans1 hHeld
            clear hHeld EB F0
            cases h0 : eqf ((X : Nat) : Int) 0
            · cases h1 : eqf ((X : Nat) : Int) 1
              · go_wp2_with (first | (refine wpList_load_row rfl 24 _ rfl rb rfl 24 _ (0, 0) _ RB Try.underlying24 rfl feInfo ?_) | (refine gl_build (by rfl) 24 #[] rfl (feC 0) (by kernel_rfl) ?_) | (refine gl_build (by rfl) 24 #[(0, .const (.int .u8 1))] rfl (feC 1) (by kernel_rfl) ?_))
                go_ret
                exact ⟨by rw [lgr_m h0 h1]; rfl, CC⟩
              · go_wp2_with (first | (refine wpList_load_row rfl 24 _ rfl rb rfl 24 _ (0, 0) _ RB Try.underlying24 rfl feInfo ?_) | (refine gl_build (by rfl) 24 #[] rfl (feC 0) (by kernel_rfl) ?_) | (refine gl_build (by rfl) 24 #[(0, .const (.int .u8 1))] rfl (feC 1) (by kernel_rfl) ?_))
                go_ret
                exact ⟨by rw [lgr_o h0 h1]; rfl, CC⟩
            · go_wp2_with (first | (refine wpList_load_row rfl 24 _ rfl rb rfl 24 _ (0, 0) _ RB Try.underlying24 rfl feInfo ?_) | (refine gl_build (by rfl) 24 #[] rfl (feC 0) (by kernel_rfl) ?_) | (refine gl_build (by rfl) 24 #[(0, .const (.int .u8 1))] rfl (feC 1) (by kernel_rfl) ?_))
              go_ret
              exact ⟨by rw [lgr_z h0]; rfl, CC⟩
          exact AllReadyH.nil
        exact AllReadyH.nil
      refine AllReadyH.cons (o := _) rfl (fun K hK => ?_) ?_
      ·
        rw [if_pos (by rfl)]
        go_simp
        refine hK.out _ _ (hHeld.alloc _) (fun hHeld => ?_)
        clear hK K
        try simp only [Act.put, List.setIfInBounds_toArray, List.set_cons_zero, List.set_cons_succ]
        have RB : Blk (v5.drew.alloc (.cells z32 24)) v5.heap.size z32 24 := Blk.new v5.drew z32 24
        obtain ⟨rb, hnb⟩ : ∃ rb, v5.heap.size = rb := ⟨_, rfl⟩
        have nbl : v5.heap.size ≤ rb := Nat.le_of_eq hnb
        rw [hnb] at RB
        rw [hnb]
        clear hnb
        refine wpAnyH_ready (rs := [2]) (by kernel_rfl) (by simp) ?_
        refine AllReadyH.cons (o := _) rfl (fun K hK => ?_) ?_
        ·
          go_simp
          refine (Power_r n hn eb 0 32 32 (bof (HF : Int)) (by decide) _ (Bs.ofFe (EB.chg hHeld (by simp)))).mono ?_
          rintro e x2 ⟨rfl, k⟩
          rw [HP.out]
          have hsz : v5.heap.size ≤ x2.heap.size := (hHeld.trans1 k).size
          go_wp2_with fail
          refine hK.out _ _ (hHeld.trans1 k) (fun hHeld => ?_)
          clear hK K
          try simp only [Act.put, List.setIfInBounds_toArray, List.set_cons_zero, List.set_cons_succ]
          replace RB := RB.chg k (by simp)
          clear k
          refine wpAnyH_ready (rs := [4]) (by kernel_rfl) (by simp) ?_
          refine AllReadyH.cons (o := _) rfl (fun K hK => ?_) ?_
          ·
            rw [if_pos (by rfl)]
            refine wp_store_row 24 _ _ rfl rb _ rfl rfl 24 _ RB feInfo rfl (feC_one _) ?_
            refine hK.out _ _ (hHeld.setRowNew nbl _) (fun hHeld => ?_)
            clear hK K
            try simp only [Act.put, List.setIfInBounds_toArray, List.set_cons_zero, List.set_cons_succ]
            refine wpAnyH_done (by kernel_rfl) ?_ _
            replace RB := RB.setRow (feC ((X : Nat) : Int))
            replace CC := CC.trans1 hHeld
            clear hHeld EB F0
            cases h0 : eqf ((X : Nat) : Int) 0
            · cases h1 : eqf ((X : Nat) : Int) 1
              · go_wp2_with (first | (refine wpList_load_row rfl 24 _ rfl rb rfl 24 _ (0, 0) _ RB Try.underlying24 rfl feInfo ?_) | (refine gl_build (by rfl) 24 #[] rfl (feC 0) (by kernel_rfl) ?_) | (refine gl_build (by rfl) 24 #[(0, .const (.int .u8 1))] rfl (feC 1) (by kernel_rfl) ?_))
                go_ret
                exact ⟨by rw [lgr_m h0 h1]; rfl, CC⟩
              · go_wp2_with (first | (refine wpList_load_row rfl 24 _ rfl rb rfl 24 _ (0, 0) _ RB Try.underlying24 rfl feInfo ?_) | (refine gl_build (by rfl) 24 #[] rfl (feC 0) (by kernel_rfl) ?_) | (refine gl_build (by rfl) 24 #[(0, .const (.int .u8 1))] rfl (feC 1) (by kernel_rfl) ?_))
                go_ret
                exact ⟨by rw [lgr_o h0 h1]; rfl, CC⟩
            · go_wp2_with (first | (refine wpList_load_row rfl 24 _ rfl rb rfl 24 _ (0, 0) _ RB Try.underlying24 rfl feInfo ?_) | (refine gl_build (by rfl) 24 #[] rfl (feC 0) (by kernel_rfl) ?_) | (refine gl_build (by rfl) 24 #[(0, .const (.int .u8 1))] rfl (feC 1) (by kernel_rfl) ?_))
              go_ret
              exact ⟨by rw [lgr_z h0]; rfl, CC⟩
          exact AllReadyH.nil
        exact AllReadyH.nil
      exact AllReadyH.nil
end Go.Proofs.Ytcdgkhejbdlapaa
