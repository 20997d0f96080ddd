/- rimeref02.Sum and Product over lists. -/
import Derived.Test.YtcdgkhejbdlapaaLst2
import Derived.Test.YtcdgkhejbdlapaaAddsWalk
import Derived.Deep.MidRow
set_option linter.unusedVariables false
set_option linter.unusedSimpArgs false
set_option linter.unnecessarySimpa false
namespace Go.Proofs.Ytcdgkhejbdlapaa
open Go.RowKit N

theorem Fc.range {w : World} {g o : Nat} {n : Int} (h : Fc w g o n) : w.rangeAt g o (feL n) := fun j v hv => by
  have hj : j < 32 := by
    have := (List.getElem?_eq_some_iff.1 hv).1
    rw [feL_len] at this
    exact this
  rw [h.cell j hj]
  have e := feC_get n j hj
  have e2 : (feC n)[j]? = some v := by
    have h' : (feL n).toArray[j]? = some v := by simpa using hv
    exact h'
  rw [e] at e2
  exact e2
theorem exec_load_mid {P : Program} {op : Oper} {a : Act} (w : World) (ty : TypeId) (x : Operand) (ho : op.op = .load ty x) (b o : Nat) (hx : a.eval x = .pointer (some ⟨b, o, none⟩)) (cs : List Value) (d : TypeDesc) (hc : w.rangeAt b o cs)
    (hu : P.underlying ty = some d) (hd : d.isRow = true) (hi : (P.info? ty).map (·.size) = some cs.length) : (execOp a.eval op).run P w = .ok (.value (.agg cs.toArray)) w := by
  unfold execOp
  simp only [ho, hx, Instr.loadAt, Instr.sureAddr, Sem.run_bind, Sem.run_pure, Result.andThen_ok, run_loadVar_mid w b o ty cs d hc hu hd hi]
theorem sL_q (f : Nat → Nat) (i : Nat) : ad (sL f i % L) ((f i : Nat) : Int) = sL f (i + 1) % L := by
  show (sL f i % L + ((f i : Nat) : Int)) % L = (sL f i + ((f i : Nat) : Int)) % L
  exact m_add_l _ _
theorem pL_q (f : Nat → Nat) (i : Nat) : ml (pL f i % L) ((f i : Nat) : Int) = pL f (i + 1) % L := by
  show (pL f i % L * ((f i : Nat) : Int)) % L = (pL f i * ((f i : Nat) : Int)) % L
  exact m_mul_l _ _
set_option maxHeartbeats 8000000 in
set_option maxRecDepth 100000 in
theorem Sum_r (v : Value) (N : Nat) (f : Nat → Nat) (hN : N ≤ 140737488355328) (w : World) (hL : Ls w v N f) (T : Int) (hT : sL f N % L = T) :
    Calls Try.prog 48 #[v] w fun e w' => e = .returned (fe T) ∧ Chg w w' [] := by
  obtain ⟨p, cp, rfl, hp⟩ := hL.form
  have hb := hL.1
  have f0 : Blk (((w.alloc (.cells z32 24)).alloc (.cells z32 24)).setRow (w.heap.size + 1) (feC 0)) w.heap.size z32 24 := ((Blk.new w z32 24).alloc _).setRowOther (by omega) _
  have fz : Blk ((w.alloc (.cells z32 24)).alloc (.cells z32 24)) (w.heap.size + 1) z32 24 := by have h := Blk.new (w.alloc (.cells z32 24)) z32 24; simpa using h
  have hW : Chg w (((w.alloc (.cells z32 24)).alloc (.cells z32 24)).setRow (w.heap.size + 1) (feC 0)) [] := (((Chg.refl w []).alloc _).alloc _).setRowNew (by omega) _
  go_enter Try.func48, Try.ntmps48
  go_wp2_with (first | (refine wpList_store_row rfl 24 _ _ rfl (w.heap.size + 1) _ rfl rfl 24 _ fz feInfo rfl (feC_one _) ?_) | (refine gl_build (by rfl) 24 #[] rfl (feC 0) (by kernel_rfl) ?_))
  have f1 := fz.setRow (feC 0)
  try (change Code.wp _ _ _ _ (((w.alloc (.cells z32 24)).alloc (.cells z32 24)).setRow (w.heap.size + 1) (feC 0)))
  generalize (((w.alloc (.cells z32 24)).alloc (.cells z32 24)).setRow (w.heap.size + 1) (feC 0)) = v0 at *
  have h0 : sL f 0 % L = 0 := by rw [sL_0]; unfold L; decide
  have HB : Hid (w.heap.size ≤ w.heap.size + 1) := by show w.heap.size ≤ w.heap.size + 1; omega
  have HN : Hid (w.heap.size ≠ w.heap.size + 1) := by show w.heap.size ≠ w.heap.size + 1; omega
  have HGN : Hid (∀ g, g < w.heap.size → ¬ g ∈ [w.heap.size + 1]) := fun g hg => by simp; omega
  clear fz
  go_loopw [4] (fun t wr => ∃ i : Nat, i ≤ N ∧ t = .int .i64 (i : Int) ∧ Blk wr w.heap.size z32 24 ∧ Blk wr (w.heap.size + 1) (feC (sL f i % L)) 24 ∧ Chg w wr []) (fun t _ => (N - intOf t).toNat)
  case atStart => exact ⟨0, Nat.zero_le _, rfl, f0, by rw [h0]; exact f1, hW⟩
  case round =>
    clear f0 f1 hW h0
    obtain ⟨i, hi, rfl, c2, c3, cC⟩ := hrel
    by_cases h : i < N
    · have hI : (i : Int) < (N : Int) := by omega
      have hI0 : (0 : Int) ≤ (i : Int) := by omega
      have HM : Hid _ := mN N i h
      have HI1 : Hid (i + 1 ≤ N) := h
      obtain ⟨g, o, rfl, hg, hF⟩ := hp i h
      have r1 : R256 ((f i : Nat) : Int) := by have := hb i h; exact ⟨by omega, by omega⟩
      have hF' := hF.chg cC (by simp)
      have HG : Hid (¬ g ∈ [(w.heap.size + 1)]) := HGN.out g hg
      have HS : Hid (ad (sL f i % L) ((f i : Nat) : Int) = sL f (i + 1) % L) := sL_q f i
      clear hp hb h hi hF hg
      go_wp2_with fail
      refine wp_region_held_drew (S := fun w' => Chg wr w' [(w.heap.size + 1)]) (by kernel_rfl) ((Chg.refl wr _).drew) (fun hHeld => ?_)
      replace c3 := c3.drew
      replace c2 := c2.drew
      replace cC := cC.drew
      refine take_val (v := ?_) 1 (some 13) rfl (by kernel_rfl) (by kernel_rfl) (by kernel_rfl) (fun _ _ _ h => h) rfl rfl (fun w hSw => ?_) hHeld ?_
      rotate_left
      · (go_simp; try with_reducible rfl)
      try simp only [Act.put, List.setIfInBounds_toArray, List.set_cons_zero, List.set_cons_succ]
      refine take_val (v := ?_) 2 (some 14) rfl (by kernel_rfl) (by kernel_rfl) (by kernel_rfl) (fun _ _ _ h => h) rfl rfl (fun w hSw => ?_) hHeld ?_
      rotate_left
      · (go_simp; try with_reducible rfl)
      try simp only [Act.put, List.setIfInBounds_toArray, List.set_cons_zero, List.set_cons_succ]
      refine take_val (v := ?_) 3 (some 15) rfl (by kernel_rfl) (by kernel_rfl) (by kernel_rfl) (fun _ _ _ h => h) rfl rfl (fun w hSw => ?_) hHeld ?_
      rotate_left
      · (go_simp; try with_reducible rfl)
      try simp only [Act.put, List.setIfInBounds_toArray, List.set_cons_zero, List.set_cons_succ]
      refine take_val (v := (.agg (feC ((f i : Nat) : Int)))) 4 (some 16) rfl (by kernel_rfl) (by kernel_rfl) (by kernel_rfl) (fun _ _ _ h => h) rfl rfl (fun w hSw => ?_) hHeld ?_
      · exact exec_load_mid w 24 _ rfl g (o + i * 32) rfl (feL ((f i : Nat) : Int)) _ (hF'.chg hSw HG.out).range Try.underlying24 rfl feInfo
      try simp only [Act.put, List.setIfInBounds_toArray, List.set_cons_zero, List.set_cons_succ]
      refine wpAnyH_ready (rs := [0]) (by kernel_rfl) (by simp) ?_
      refine AllReadyH.cons (o := _) rfl (fun K hK => ?_) ?_
      ·
        rw [if_pos (by rfl)]
        refine wp_load_row 24 _ rfl (w.heap.size + 1) rfl 24 _ (0, 0) _ c3 Try.underlying24 rfl feInfo ?_
        refine hK.out _ _ (hHeld) (fun hHeld => ?_)
        clear hK K
        try simp only [Act.put, List.setIfInBounds_toArray, List.set_cons_zero, List.set_cons_succ]
        refine wpAnyH_ready (rs := [5]) (by kernel_rfl) (by simp) ?_
        refine AllReadyH.cons (o := _) rfl (fun K hK => ?_) ?_
        ·
          go_simp
          refine (Add_q _ _ (r256_mod _) r1 _).mono ?_
          rintro e x5 ⟨rfl, k⟩
          rw [HS.out]
          replace c3 := c3.chg k (by simp)
          replace c2 := c2.chg k (by simp)
          replace cC := cC.trans1 k
          go_wp2_with fail
          refine hK.out _ _ (hHeld.trans1 k.wide) (fun hHeld => ?_)
          clear hK K
          try simp only [Act.put, List.setIfInBounds_toArray, List.set_cons_zero, List.set_cons_succ]
          clear k
          refine wpAnyH_ready (rs := [6]) (by kernel_rfl) (by simp) ?_
          refine AllReadyH.cons (o := _) rfl (fun K hK => ?_) ?_
          ·
            rw [if_pos (by rfl)]
            refine wp_store_row 24 _ _ rfl (w.heap.size + 1) _ rfl rfl 24 _ c3 feInfo rfl (feC_one _) ?_
            refine hK.out _ _ (hHeld.trans1 (Chg.of (gb_setRow (gb_refl _ _) _))) (fun hHeld => ?_)
            clear hK K
            try simp only [Act.put, List.setIfInBounds_toArray, List.set_cons_zero, List.set_cons_succ]
            refine wpAnyH_done (by kernel_rfl) ?_ _
            go_wp2_with fail
            exact ⟨⟨i + 1, HI1.out, by go_num, c2.setRowOther HN.out _, c3.setRow _, cC.setRowNew HB.out _⟩, HM.out⟩
          exact AllReadyH.nil
        exact AllReadyH.nil
      exact AllReadyH.nil
    · obtain rfl : i = N := by omega
      have hI : ¬ (i : Int) < (i : Int) := by omega
      rw [hT] at c3
      go_wp2_with (first | (refine wpList_load_row rfl 24 _ rfl (w.heap.size + 1) rfl 24 _ (0, 0) _ c3 Try.underlying24 rfl feInfo ?_) | (refine wpList_store_row rfl 24 _ _ rfl w.heap.size _ rfl rfl 24 _ c2 feInfo rfl (feC_one _) ?_))
      exact bodyPost_ret (results_cell_row Try.results48 _ _ w.heap.size 24 (feC T) (0, 0) _ rfl (Blk.setRow c2 _) Try.underlying24 rfl feInfo) rfl ⟨rfl, cC.setRowNew (Nat.le_refl _) _⟩
set_option maxHeartbeats 8000000 in
set_option maxRecDepth 100000 in
theorem Product_r (v : Value) (N : Nat) (f : Nat → Nat) (hN : N ≤ 140737488355328) (w : World) (hL : Ls w v N f) (T : Int) (hT : pL f N % L = T) :
    Calls Try.prog 50 #[v] w fun e w' => e = .returned (fe T) ∧ Chg w w' [] := by
  obtain ⟨p, cp, rfl, hp⟩ := hL.form
  have hb := hL.1
  have f0 : Blk (((w.alloc (.cells z32 24)).alloc (.cells z32 24)).setRow (w.heap.size + 1) (feC 1)) w.heap.size z32 24 := ((Blk.new w z32 24).alloc _).setRowOther (by omega) _
  have fz : Blk ((w.alloc (.cells z32 24)).alloc (.cells z32 24)) (w.heap.size + 1) z32 24 := by have h := Blk.new (w.alloc (.cells z32 24)) z32 24; simpa using h
  have hW : Chg w (((w.alloc (.cells z32 24)).alloc (.cells z32 24)).setRow (w.heap.size + 1) (feC 1)) [] := (((Chg.refl w []).alloc _).alloc _).setRowNew (by omega) _
  go_enter Try.func50, Try.ntmps50
  go_wp2_with (first | (refine wpList_store_row rfl 24 _ _ rfl (w.heap.size + 1) _ rfl rfl 24 _ fz feInfo rfl (feC_one _) ?_) | (refine gl_build (by rfl) 24 #[(0, .const (.int .u8 1))] rfl (feC 1) (by kernel_rfl) ?_))
  have f1 := fz.setRow (feC 1)
  try (change Code.wp _ _ _ _ (((w.alloc (.cells z32 24)).alloc (.cells z32 24)).setRow (w.heap.size + 1) (feC 1)))
  generalize (((w.alloc (.cells z32 24)).alloc (.cells z32 24)).setRow (w.heap.size + 1) (feC 1)) = v0 at *
  have h0 : pL f 0 % L = 1 := by rw [pL_0]; unfold L; decide
  have HB : Hid (w.heap.size ≤ w.heap.size + 1) := by show w.heap.size ≤ w.heap.size + 1; omega
  have HN : Hid (w.heap.size ≠ w.heap.size + 1) := by show w.heap.size ≠ w.heap.size + 1; omega
  have HGN : Hid (∀ g, g < w.heap.size → ¬ g ∈ [w.heap.size + 1]) := fun g hg => by simp; omega
  clear fz
  go_loopw [4] (fun t wr => ∃ i : Nat, i ≤ N ∧ t = .int .i64 (i : Int) ∧ Blk wr w.heap.size z32 24 ∧ Blk wr (w.heap.size + 1) (feC (pL f i % L)) 24 ∧ Chg w wr []) (fun t _ => (N - intOf t).toNat)
  case atStart => exact ⟨0, Nat.zero_le _, rfl, f0, by rw [h0]; exact f1, hW⟩
  case round =>
    clear f0 f1 hW h0
    obtain ⟨i, hi, rfl, c2, c3, cC⟩ := hrel
    by_cases h : i < N
    · have hI : (i : Int) < (N : Int) := by omega
      have hI0 : (0 : Int) ≤ (i : Int) := by omega
      have HM : Hid _ := mN N i h
      have HI1 : Hid (i + 1 ≤ N) := h
      obtain ⟨g, o, rfl, hg, hF⟩ := hp i h
      have r1 : R256 ((f i : Nat) : Int) := by have := hb i h; exact ⟨by omega, by omega⟩
      have hF' := hF.chg cC (by simp)
      have HG : Hid (¬ g ∈ [(w.heap.size + 1)]) := HGN.out g hg
      have HS : Hid (ml (pL f i % L) ((f i : Nat) : Int) = pL f (i + 1) % L) := pL_q f i
      clear hp hb h hi hF hg
      go_wp2_with fail
      refine wp_region_held_drew (S := fun w' => Chg wr w' [(w.heap.size + 1)]) (by kernel_rfl) ((Chg.refl wr _).drew) (fun hHeld => ?_)
      replace c3 := c3.drew
      replace c2 := c2.drew
      replace cC := cC.drew
      refine take_val (v := ?_) 1 (some 13) rfl (by kernel_rfl) (by kernel_rfl) (by kernel_rfl) (fun _ _ _ h => h) rfl rfl (fun w hSw => ?_) hHeld ?_
      rotate_left
      · (go_simp; try with_reducible rfl)
      try simp only [Act.put, List.setIfInBounds_toArray, List.set_cons_zero, List.set_cons_succ]
      refine take_val (v := ?_) 2 (some 14) rfl (by kernel_rfl) (by kernel_rfl) (by kernel_rfl) (fun _ _ _ h => h) rfl rfl (fun w hSw => ?_) hHeld ?_
      rotate_left
      · (go_simp; try with_reducible rfl)
      try simp only [Act.put, List.setIfInBounds_toArray, List.set_cons_zero, List.set_cons_succ]
      refine take_val (v := ?_) 3 (some 15) rfl (by kernel_rfl) (by kernel_rfl) (by kernel_rfl) (fun _ _ _ h => h) rfl rfl (fun w hSw => ?_) hHeld ?_
      rotate_left
      · (go_simp; try with_reducible rfl)
      try simp only [Act.put, List.setIfInBounds_toArray, List.set_cons_zero, List.set_cons_succ]
      refine take_val (v := (.agg (feC ((f i : Nat) : Int)))) 4 (some 16) rfl (by kernel_rfl) (by kernel_rfl) (by kernel_rfl) (fun _ _ _ h => h) rfl rfl (fun w hSw => ?_) hHeld ?_
      · exact exec_load_mid w 24 _ rfl g (o + i * 32) rfl (feL ((f i : Nat) : Int)) _ (hF'.chg hSw HG.out).range Try.underlying24 rfl feInfo
      try simp only [Act.put, List.setIfInBounds_toArray, List.set_cons_zero, List.set_cons_succ]
      refine wpAnyH_ready (rs := [0]) (by kernel_rfl) (by simp) ?_
      refine AllReadyH.cons (o := _) rfl (fun K hK => ?_) ?_
      ·
        rw [if_pos (by rfl)]
        refine wp_load_row 24 _ rfl (w.heap.size + 1) rfl 24 _ (0, 0) _ c3 Try.underlying24 rfl feInfo ?_
        refine hK.out _ _ (hHeld) (fun hHeld => ?_)
        clear hK K
        try simp only [Act.put, List.setIfInBounds_toArray, List.set_cons_zero, List.set_cons_succ]
        refine wpAnyH_ready (rs := [5]) (by kernel_rfl) (by simp) ?_
        refine AllReadyH.cons (o := _) rfl (fun K hK => ?_) ?_
        ·
          go_simp
          refine (Mul_q _ _ (r256_mod _) r1 _).mono ?_
          rintro e x5 ⟨rfl, k⟩
          rw [HS.out]
          replace c3 := c3.chg k (by simp)
          replace c2 := c2.chg k (by simp)
          replace cC := cC.trans1 k
          go_wp2_with fail
          refine hK.out _ _ (hHeld.trans1 k.wide) (fun hHeld => ?_)
          clear hK K
          try simp only [Act.put, List.setIfInBounds_toArray, List.set_cons_zero, List.set_cons_succ]
          clear k
          refine wpAnyH_ready (rs := [6]) (by kernel_rfl) (by simp) ?_
          refine AllReadyH.cons (o := _) rfl (fun K hK => ?_) ?_
          ·
            rw [if_pos (by rfl)]
            refine wp_store_row 24 _ _ rfl (w.heap.size + 1) _ rfl rfl 24 _ c3 feInfo rfl (feC_one _) ?_
            refine hK.out _ _ (hHeld.trans1 (Chg.of (gb_setRow (gb_refl _ _) _))) (fun hHeld => ?_)
            clear hK K
            try simp only [Act.put, List.setIfInBounds_toArray, List.set_cons_zero, List.set_cons_succ]
            refine wpAnyH_done (by kernel_rfl) ?_ _
            go_wp2_with fail
            exact ⟨⟨i + 1, HI1.out, by go_num, c2.setRowOther HN.out _, c3.setRow _, cC.setRowNew HB.out _⟩, HM.out⟩
          exact AllReadyH.nil
        exact AllReadyH.nil
      exact AllReadyH.nil
    · obtain rfl : i = N := by omega
      have hI : ¬ (i : Int) < (i : Int) := by omega
      rw [hT] at c3
      go_wp2_with (first | (refine wpList_load_row rfl 24 _ rfl (w.heap.size + 1) rfl 24 _ (0, 0) _ c3 Try.underlying24 rfl feInfo ?_) | (refine wpList_store_row rfl 24 _ _ rfl w.heap.size _ rfl rfl 24 _ c2 feInfo rfl (feC_one _) ?_))
      exact bodyPost_ret (results_cell_row Try.results50 _ _ w.heap.size 24 (feC T) (0, 0) _ rfl (Blk.setRow c2 _) Try.underlying24 rfl feInfo) rfl ⟨rfl, cC.setRowNew (Nat.le_refl _) _⟩
end Go.Proofs.Ytcdgkhejbdlapaa
