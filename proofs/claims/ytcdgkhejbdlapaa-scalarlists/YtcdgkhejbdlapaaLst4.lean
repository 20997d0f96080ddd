/- rimeref02.Dot over lists; lists of unlike lengths. -/
import Derived.Test.YtcdgkhejbdlapaaLst3
set_option linter.unusedVariables false
set_option linter.unusedSimpArgs false
set_option linter.unnecessarySimpa false
namespace Go.Proofs.Ytcdgkhejbdlapaa
open Go.RowKit N

theorem dL_q (f g : Nat → Nat) (i : Nat) : ma ((f i : Nat) : Int) ((g i : Nat) : Int) (dL f g i % L) = dL f g (i + 1) % L := by
  show (((f i : Nat) : Int) * ((g i : Nat) : Int) + dL f g i % L) % L = (dL f g i + ((f i : Nat) : Int) * ((g i : Nat) : Int)) % L
  rw [m_add_r, Int.add_comm]
set_option maxHeartbeats 8000000 in
set_option maxRecDepth 100000 in
theorem Dot_r (v u : Value) (N : Nat) (f e2 : Nat → Nat) (hN : N ≤ 140737488355328) (w : World) (hL : Ls w v N f) (hU : Ls w u N e2) (T : Int) (hT : dL f e2 N % L = T) :
    Calls Try.prog 46 #[v, u] w fun e w' => e = .returned (.tuple #[fe T, .int .i64 0]) ∧ Chg w w' [] := by
  obtain ⟨p, cp, rfl, hp⟩ := hL.form
  obtain ⟨p', cp', rfl, hp'⟩ := hU.form
  have hb := hL.1
  have hb' := hU.1
  have f0 : Blk (((w.alloc (.cells z32 24)).alloc (.cells z32 24)).setRow (w.heap.size + 1) (feC 0)) w.heap.size z32 24 := ((Blk.new w z32 24).alloc _).setRowOther (by omega) _
  have fz : Blk ((w.alloc (.cells z32 24)).alloc (.cells z32 24)) (w.heap.size + 1) z32 24 := by have h := Blk.new (w.alloc (.cells z32 24)) z32 24; simpa using h
  have hW : Chg w (((w.alloc (.cells z32 24)).alloc (.cells z32 24)).setRow (w.heap.size + 1) (feC 0)) [] := (((Chg.refl w []).alloc _).alloc _).setRowNew (by omega) _
  go_enter Try.func46, Try.ntmps46
  go_wp2_with (first | (refine wpList_store_row rfl 24 _ _ rfl (w.heap.size + 1) _ rfl rfl 24 _ fz feInfo rfl (feC_one _) ?_) | (refine gl_build (by rfl) 24 #[] rfl (feC 0) (by kernel_rfl) ?_))
  have f1 := fz.setRow (feC 0)
  try (change Code.wp _ _ _ _ (((w.alloc (.cells z32 24)).alloc (.cells z32 24)).setRow (w.heap.size + 1) (feC 0)))
  generalize (((w.alloc (.cells z32 24)).alloc (.cells z32 24)).setRow (w.heap.size + 1) (feC 0)) = v0 at *
  have h0 : dL f e2 0 % L = 0 := by rw [dL_0]; unfold L; decide
  have HB : Hid (w.heap.size ≤ w.heap.size + 1) := by show w.heap.size ≤ w.heap.size + 1; omega
  have HN : Hid (w.heap.size ≠ w.heap.size + 1) := by show w.heap.size ≠ w.heap.size + 1; omega
  have HGN : Hid (∀ g, g < w.heap.size → ¬ g ∈ [w.heap.size + 1]) := fun g hg => by simp; omega
  clear fz
  go_loopw [7] (fun t wr => ∃ i : Nat, i ≤ N ∧ t = .int .i64 (i : Int) ∧ Blk wr w.heap.size z32 24 ∧ Blk wr (w.heap.size + 1) (feC (dL f e2 i % L)) 24 ∧ Chg w wr []) (fun t _ => (N - intOf t).toNat)
  case atStart => exact ⟨0, Nat.zero_le _, rfl, f0, by rw [h0]; exact f1, hW⟩
  case round =>
    clear f0 f1 hW h0
    obtain ⟨i, hi, rfl, c2, c3, cC⟩ := hrel
    by_cases h : i < N
    · have hI : (i : Int) < (N : Int) := by omega
      have hI0 : (0 : Int) ≤ (i : Int) := by omega
      have HM : Hid _ := mN N i h
      have HI1 : Hid (i + 1 ≤ N) := h
      obtain ⟨g, o, rfl, hg, hF⟩ := hp i h
      obtain ⟨g', o', rfl, hg', hG0⟩ := hp' i h
      have r1 : R256 ((f i : Nat) : Int) := by have := hb i h; exact ⟨by omega, by omega⟩
      have r2 : R256 ((e2 i : Nat) : Int) := by have := hb' i h; exact ⟨by omega, by omega⟩
      have hF' := hF.chg cC (by simp)
      have hG' := hG0.chg cC (by simp)
      have HG : Hid (¬ g ∈ [w.heap.size + 1]) := HGN.out g hg
      have HG2 : Hid (¬ g' ∈ [w.heap.size + 1]) := HGN.out g' hg'
      have HS : Hid (ma ((f i : Nat) : Int) ((e2 i : Nat) : Int) (dL f e2 i % L) = dL f e2 (i + 1) % L) := dL_q f e2 i
      clear hp hb hp' hb' h hi hF hg hG0 hg'
      go_wp2_with fail
      refine wp_region_held_drew (S := fun w' => Chg wr w' [(w.heap.size + 1)]) (by kernel_rfl) ((Chg.refl wr _).drew) (fun hHeld => ?_)
      replace c3 := c3.drew
      replace c2 := c2.drew
      replace cC := cC.drew
      refine take_val (v := ?_) 0 (some 21) rfl (by kernel_rfl) (by kernel_rfl) (by kernel_rfl) (fun _ _ _ h => h) rfl rfl (fun w hSw => ?_) hHeld ?_
      rotate_left
      · (go_simp; try with_reducible rfl)
      try simp only [Act.put, List.setIfInBounds_toArray, List.set_cons_zero, List.set_cons_succ]
      refine take_val (v := ?_) 1 (some 22) rfl (by kernel_rfl) (by kernel_rfl) (by kernel_rfl) (fun _ _ _ h => h) rfl rfl (fun w hSw => ?_) hHeld ?_
      rotate_left
      · (go_simp; try with_reducible rfl)
      try simp only [Act.put, List.setIfInBounds_toArray, List.set_cons_zero, List.set_cons_succ]
      refine take_val (v := ?_) 2 (some 23) rfl (by kernel_rfl) (by kernel_rfl) (by kernel_rfl) (fun _ _ _ h => h) rfl rfl (fun w hSw => ?_) hHeld ?_
      rotate_left
      · (go_simp; try with_reducible rfl)
      try simp only [Act.put, List.setIfInBounds_toArray, List.set_cons_zero, List.set_cons_succ]
      refine take_val (v := (.agg (feC ((f i : Nat) : Int)))) 3 (some 24) rfl (by kernel_rfl) (by kernel_rfl) (by kernel_rfl) (fun _ _ _ h => h) rfl rfl (fun w hSw => ?_) hHeld ?_
      · exact exec_load_mid w 24 _ rfl g (o + i * 32) rfl (feL ((f i : Nat) : Int)) _ (hF'.chg hSw HG.out).range Try.underlying24 rfl feInfo
      try simp only [Act.put, List.setIfInBounds_toArray, List.set_cons_zero, List.set_cons_succ]
      refine take_val (v := ?_) 4 (some 25) rfl (by kernel_rfl) (by kernel_rfl) (by kernel_rfl) (fun _ _ _ h => h) rfl rfl (fun w hSw => ?_) hHeld ?_
      rotate_left
      · (go_simp; try with_reducible rfl)
      try simp only [Act.put, List.setIfInBounds_toArray, List.set_cons_zero, List.set_cons_succ]
      refine take_val (v := ?_) 5 (some 26) rfl (by kernel_rfl) (by kernel_rfl) (by kernel_rfl) (fun _ _ _ h => h) rfl rfl (fun w hSw => ?_) hHeld ?_
      rotate_left
      · (go_simp; try with_reducible rfl)
      try simp only [Act.put, List.setIfInBounds_toArray, List.set_cons_zero, List.set_cons_succ]
      refine take_val (v := ?_) 6 (some 27) rfl (by kernel_rfl) (by kernel_rfl) (by kernel_rfl) (fun _ _ _ h => h) rfl rfl (fun w hSw => ?_) hHeld ?_
      rotate_left
      · (go_simp; try with_reducible rfl)
      try simp only [Act.put, List.setIfInBounds_toArray, List.set_cons_zero, List.set_cons_succ]
      refine take_val (v := (.agg (feC ((e2 i : Nat) : Int)))) 7 (some 28) rfl (by kernel_rfl) (by kernel_rfl) (by kernel_rfl) (fun _ _ _ h => h) rfl rfl (fun w hSw => ?_) hHeld ?_
      · exact exec_load_mid w 24 _ rfl g' (o' + i * 32) rfl (feL ((e2 i : Nat) : Int)) _ (hG'.chg hSw HG2.out).range Try.underlying24 rfl feInfo
      try simp only [Act.put, List.setIfInBounds_toArray, List.set_cons_zero, List.set_cons_succ]
      refine wpAnyH_ready (rs := [8]) (by kernel_rfl) (by simp) ?_
      refine AllReadyH.cons (o := _) rfl (fun K hK => ?_) ?_
      ·
        rw [if_pos (by rfl)]
        refine wp_load_row 24 _ rfl (w.heap.size + 1) rfl 24 _ (0, 0) _ c3 Try.underlying24 rfl feInfo ?_
        refine hK.out _ _ (hHeld) (fun hHeld => ?_)
        clear hK K
        try simp only [Act.put, List.setIfInBounds_toArray, List.set_cons_zero, List.set_cons_succ]
        refine wpAnyH_ready (rs := [9]) (by kernel_rfl) (by simp) ?_
        refine AllReadyH.cons (o := _) rfl (fun K hK => ?_) ?_
        ·
          go_simp
          refine (MulAdd_q _ _ _ r1 r2 (r256_mod _) _).mono ?_
          rintro e x5 ⟨rfl, k⟩
          rw [HS.out]
          replace c3 := c3.chg k (by simp)
          replace c2 := c2.chg k (by simp)
          replace cC := cC.trans1 k
          go_wp2_with fail
          refine hK.out _ _ (hHeld.trans1 k.wide) (fun hHeld => ?_)
          clear hK K
          try simp only [Act.put, List.setIfInBounds_toArray, List.set_cons_zero, List.set_cons_succ]
          clear k
          refine wpAnyH_ready (rs := [10]) (by kernel_rfl) (by simp) ?_
          refine AllReadyH.cons (o := _) rfl (fun K hK => ?_) ?_
          ·
            rw [if_pos (by rfl)]
            refine wp_store_row 24 _ _ rfl (w.heap.size + 1) _ rfl rfl 24 _ c3 feInfo rfl (feC_one _) ?_
            refine hK.out _ _ (hHeld.trans1 (Chg.of (gb_setRow (gb_refl _ _) _))) (fun hHeld => ?_)
            clear hK K
            try simp only [Act.put, List.setIfInBounds_toArray, List.set_cons_zero, List.set_cons_succ]
            refine wpAnyH_done (by kernel_rfl) ?_ _
            go_wp2_with fail
            exact ⟨⟨i + 1, HI1.out, by go_num, c2.setRowOther HN.out _, c3.setRow _, cC.setRowNew HB.out _⟩, HM.out⟩
          exact AllReadyH.nil
        exact AllReadyH.nil
      exact AllReadyH.nil
    · obtain rfl : i = N := by omega
      have hI : ¬ (i : Int) < (i : Int) := by omega
      rw [hT] at c3
      go_wp2_with (first | (refine wpList_load_row rfl 24 _ rfl (w.heap.size + 1) rfl 24 _ (0, 0) _ c3 Try.underlying24 rfl feInfo ?_) | (refine wpList_store_row rfl 24 _ _ rfl w.heap.size _ rfl rfl 24 _ c2 feInfo rfl (feC_one _) ?_))
      exact bodyPost_ret (results_cell_tmp Try.results46 _ _ w.heap.size 24 (feC T) _ _ rfl rfl (Blk.setRow c2 _) Try.underlying24 rfl feInfo) rfl ⟨rfl, cC.setRowNew (Nat.le_refl _) _⟩
set_option maxHeartbeats 8000000 in
set_option maxRecDepth 100000 in
theorem Dot_count (v u : Value) (N M : Nat) (f e2 : Nat → Nat) (hNM : ¬ N = M) (w : World) (hL : Ls w v N f) (hU : Ls w u M e2) :
    Calls Try.prog 45 #[v, u] w fun e w' => e = .returned (.tuple #[fe 0, .int .i64 8]) ∧ Chg w w' [] := by
  obtain ⟨p, cp, rfl, _⟩ := hL.form
  obtain ⟨p', cp', rfl, _⟩ := hU.form
  have hI : ¬ (N : Int) = (M : Int) := by omega
  have F0 := Blk.new w z32 24
  have hc := (Chg.refl w []).alloc (.cells z32 24)
  go_enter Try.func45, Try.ntmps45
  go_wp2_with (first | (refine wpList_store_row rfl 24 _ _ rfl w.heap.size _ rfl rfl 24 _ F0 feInfo rfl (feC_one _) ?_) | (refine gl_build (by rfl) 24 #[] rfl (feC 0) (by kernel_rfl) ?_))
  exact bodyPost_ret (results_cell_tmp Try.results45 _ _ w.heap.size 24 (feC 0) _ _ rfl rfl (Blk.setRow F0 _) Try.underlying24 rfl feInfo) rfl ⟨rfl, hc.setRowNew (Nat.le_refl _) _⟩
set_option maxHeartbeats 8000000 in
set_option maxRecDepth 100000 in
theorem Dot_rcount (v u : Value) (N M : Nat) (f e2 : Nat → Nat) (hNM : ¬ N = M) (w : World) (hL : Ls w v N f) (hU : Ls w u M e2) :
    Calls Try.prog 46 #[v, u] w fun e w' => e = .returned (.tuple #[fe 0, .int .i64 8]) ∧ Chg w w' [] := by
  obtain ⟨p, cp, rfl, _⟩ := hL.form
  obtain ⟨p', cp', rfl, _⟩ := hU.form
  have hI : ¬ (N : Int) = (M : Int) := by omega
  have F0 := Blk.new w z32 24
  have hc := (Chg.refl w []).alloc (.cells z32 24)
  go_enter Try.func46, Try.ntmps46
  go_wp2_with (first | (refine wpList_store_row rfl 24 _ _ rfl w.heap.size _ rfl rfl 24 _ F0 feInfo rfl (feC_one _) ?_) | (refine gl_build (by rfl) 24 #[] rfl (feC 0) (by kernel_rfl) ?_))
  exact bodyPost_ret (results_cell_tmp Try.results46 _ _ w.heap.size 24 (feC 0) _ _ rfl rfl (Blk.setRow F0 _) Try.underlying24 rfl feInfo) rfl ⟨rfl, hc.setRowNew (Nat.le_refl _) _⟩
end Go.Proofs.Ytcdgkhejbdlapaa
