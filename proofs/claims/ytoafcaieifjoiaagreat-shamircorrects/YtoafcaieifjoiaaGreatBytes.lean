/- (*number).bytes: a number's 32 bytes. -/
import Derived.Test.YtoafcaieifjoiaaGreatAddSub
import Derived.Test.YtoafcaieifjoiaaGreatWord
set_option linter.unusedVariables false
set_option linter.unusedSimpArgs false
set_option linter.unnecessarySimpa false
namespace Go.Proofs.YtoafcaieifjoiaaGreat
open Go.RowKit N

theorem feInfo : (Tryz.prog.info? 24).map (·.size) = some 32 := by kernel_rfl

set_option maxHeartbeats 4000000 in
set_option maxRecDepth 100000 in
theorem bytes_any (z : Nat) (n : Int) (rn : R256 n) (w : World) (hz : NumAt w z n) :
    Calls Tryz.prog 98 #[.pointer (some ⟨z, 0, none⟩)] w fun e w' => e = .returned (fe n) ∧ Chg w w' [] := by
  have hzlt := hz.lt
  have es := wrd_sum n rn.1 rn.2
  have HZ : Blk w z #[.int .u64 (wrd n 0), .int .u64 (wrd n 1), .int .u64 (wrd n 2), .int .u64 (wrd n 3)] 162 := hz
  have q0 := wrd_wo n 0; have q1 := wrd_wo n 1; have q2 := wrd_wo n 2; have q3 := wrd_wo n 3
  generalize wrd n 0 = W0 at *; generalize wrd n 1 = W1 at *; generalize wrd n 2 = W2 at *; generalize wrd n 3 = W3 at *
  clear hz
  have HS : Hid (W0 + W1 * 18446744073709551616 + W2 * 340282366920938463463374607431768211456 + W3 * 6277101735386680763835789423207666416102355444464034512896 = n) := es
  clear es
  have HA : Blk (w.alloc (.cells z32 24)) w.heap.size z32 24 := Blk.new w z32 24
  have CC : Chg w (w.alloc (.cells z32 24)) [] := (Chg.refl w []).alloc _
  replace HZ := HZ.alloc (.cells z32 24)
  go_enter Tryz.func98, Tryz.ntmps98
  go_wp2_with fail
  change Code.wp _ _ _ _ (w.alloc (.cells z32 24))
  have hne : ¬ z = w.heap.size := by omega
  have hle : w.heap.size ≤ w.heap.size := Nat.le_refl _
  generalize hv : w.alloc (.cells z32 24) = ψ0 at *
  clear hv
  generalize hg : w.heap.size = g at HA hne hle ⊢
  have HG : Hid (w.heap.size = g) := hg
  clear hg
  refine wp_region_held_drew (S := fun w' => Chg ψ0 w' [g]) (by kernel_rfl) ((Chg.refl ψ0 _).drew) (fun hHeld => ?_)
  refine tv (v := (.slice (some ⟨g, 0, none⟩) 8 32)) 0 (some 3) rfl (by kernel_rfl) (fun _ _ _ h => h) rfl rfl (fun w hSw => ?_) hHeld ?_
  · (go_simp; try with_reducible rfl)
  try simp only [Act.put, sA1, sA2, sA3]
  refine tv (v := ?_) 1 (some 4) rfl (by kernel_rfl) (fun _ _ _ h => h) rfl rfl (fun w hSw => ?_) hHeld ?_; rotate_left; (· (go_simp; try with_reducible rfl)); try simp only [Act.put, sA1, sA2, sA3]
  refine tv (v := ?_) 2 (some 5) rfl (by kernel_rfl) (fun _ _ _ h => h) rfl rfl (fun w hSw => ?_) hHeld ?_; rotate_left; (· (go_simp; try with_reducible rfl)); try simp only [Act.put, sA1, sA2, sA3]
  refine tv (v := ?_) 3 (some 6) rfl (by kernel_rfl) (fun _ _ _ h => h) rfl rfl (fun w hSw => ?_) hHeld ?_; rotate_left; (· (go_simp; try with_reducible rfl)); try simp only [Act.put, sA1, sA2, sA3]
  refine tv (v := ?_) 4 (some 7) rfl (by kernel_rfl) (fun _ _ _ h => h) rfl rfl (fun w hSw => ?_) hHeld ?_
  rotate_left
  · have cx := (HZ.chg hSw (by simpa using hne)).cell 0
    (go_simp; try with_reducible rfl)
  try simp only [Act.put, sA1, sA2, sA3]
  refine wpAnyH_ready (rs := [5]) (by kernel_rfl) (by simp) ?_
  refine AllReadyH.cons (o := _) rfl (fun K hK => ?_) ?_
  ·
    go_simp
    refine (putWord_blk g 0 32 W0 q0.1 q0.2 _ 24 _ HA.drew (by simp [z32])).mono ?_
    rintro e ψ1 ⟨rfl, HA', kg⟩
    have kc := Chg.of kg
    clear kg HA
    have HA := HA'
    clear HA'
    go_wp2_with fail
    refine hK.out _ _ (hHeld.trans1 kc) (fun hHeld => ?_)
    clear hK K
    try simp only [Act.put, sA1, sA2, sA3]
    refine wpAnyH_done (by kernel_rfl) ?_ _
    replace HZ := HZ.chg hHeld (by simpa using hne)
    replace CC := CC.new hHeld (Nat.le_of_eq HG.out)
    clear hHeld kc
    go_wp2_with fail
    refine wp_region_held_drew (S := fun w' => Chg ψ1 w' [g]) (by kernel_rfl) ((Chg.refl ψ1 _).drew) (fun hHeld => ?_)
    refine tv (v := (.slice (some ⟨g, 8, none⟩) 8 24)) 0 (some 9) rfl (by kernel_rfl) (fun _ _ _ h => h) rfl rfl (fun w hSw => ?_) hHeld ?_
    · (go_simp; try with_reducible rfl)
    try simp only [Act.put, sA1, sA2, sA3]
    refine tv (v := ?_) 1 (some 10) rfl (by kernel_rfl) (fun _ _ _ h => h) rfl rfl (fun w hSw => ?_) hHeld ?_; rotate_left; (· (go_simp; try with_reducible rfl)); try simp only [Act.put, sA1, sA2, sA3]
    refine tv (v := ?_) 2 (some 11) rfl (by kernel_rfl) (fun _ _ _ h => h) rfl rfl (fun w hSw => ?_) hHeld ?_; rotate_left; (· (go_simp; try with_reducible rfl)); try simp only [Act.put, sA1, sA2, sA3]
    refine tv (v := ?_) 3 (some 12) rfl (by kernel_rfl) (fun _ _ _ h => h) rfl rfl (fun w hSw => ?_) hHeld ?_; rotate_left; (· (go_simp; try with_reducible rfl)); try simp only [Act.put, sA1, sA2, sA3]
    refine tv (v := ?_) 4 (some 13) rfl (by kernel_rfl) (fun _ _ _ h => h) rfl rfl (fun w hSw => ?_) hHeld ?_
    rotate_left
    · have cx := (HZ.chg hSw (by simpa using hne)).cell 1
      (go_simp; try with_reducible rfl)
    try simp only [Act.put, sA1, sA2, sA3]
    refine wpAnyH_ready (rs := [5]) (by kernel_rfl) (by simp) ?_
    refine AllReadyH.cons (o := _) rfl (fun K hK => ?_) ?_
    ·
      go_simp
      refine (putWord_blk g 8 24 W1 q1.1 q1.2 _ 24 _ HA.drew (by simp [z32])).mono ?_
      rintro e ψ2 ⟨rfl, HA', kg⟩
      have kc := Chg.of kg
      clear kg HA
      have HA := HA'
      clear HA'
      go_wp2_with fail
      refine hK.out _ _ (hHeld.trans1 kc) (fun hHeld => ?_)
      clear hK K
      try simp only [Act.put, sA1, sA2, sA3]
      refine wpAnyH_done (by kernel_rfl) ?_ _
      replace HZ := HZ.chg hHeld (by simpa using hne)
      replace CC := CC.new hHeld (Nat.le_of_eq HG.out)
      clear hHeld kc
      go_wp2_with fail
      refine wp_region_held_drew (S := fun w' => Chg ψ2 w' [g]) (by kernel_rfl) ((Chg.refl ψ2 _).drew) (fun hHeld => ?_)
      refine tv (v := (.slice (some ⟨g, 16, none⟩) 8 16)) 0 (some 15) rfl (by kernel_rfl) (fun _ _ _ h => h) rfl rfl (fun w hSw => ?_) hHeld ?_
      · (go_simp; try with_reducible rfl)
      try simp only [Act.put, sA1, sA2, sA3]
      refine tv (v := ?_) 1 (some 16) rfl (by kernel_rfl) (fun _ _ _ h => h) rfl rfl (fun w hSw => ?_) hHeld ?_; rotate_left; (· (go_simp; try with_reducible rfl)); try simp only [Act.put, sA1, sA2, sA3]
      refine tv (v := ?_) 2 (some 17) rfl (by kernel_rfl) (fun _ _ _ h => h) rfl rfl (fun w hSw => ?_) hHeld ?_; rotate_left; (· (go_simp; try with_reducible rfl)); try simp only [Act.put, sA1, sA2, sA3]
      refine tv (v := ?_) 3 (some 18) rfl (by kernel_rfl) (fun _ _ _ h => h) rfl rfl (fun w hSw => ?_) hHeld ?_; rotate_left; (· (go_simp; try with_reducible rfl)); try simp only [Act.put, sA1, sA2, sA3]
      refine tv (v := ?_) 4 (some 19) rfl (by kernel_rfl) (fun _ _ _ h => h) rfl rfl (fun w hSw => ?_) hHeld ?_
      rotate_left
      · have cx := (HZ.chg hSw (by simpa using hne)).cell 2
        (go_simp; try with_reducible rfl)
      try simp only [Act.put, sA1, sA2, sA3]
      refine wpAnyH_ready (rs := [5]) (by kernel_rfl) (by simp) ?_
      refine AllReadyH.cons (o := _) rfl (fun K hK => ?_) ?_
      ·
        go_simp
        refine (putWord_blk g 16 16 W2 q2.1 q2.2 _ 24 _ HA.drew (by simp [z32])).mono ?_
        rintro e ψ3 ⟨rfl, HA', kg⟩
        have kc := Chg.of kg
        clear kg HA
        have HA := HA'
        clear HA'
        go_wp2_with fail
        refine hK.out _ _ (hHeld.trans1 kc) (fun hHeld => ?_)
        clear hK K
        try simp only [Act.put, sA1, sA2, sA3]
        refine wpAnyH_done (by kernel_rfl) ?_ _
        replace HZ := HZ.chg hHeld (by simpa using hne)
        replace CC := CC.new hHeld (Nat.le_of_eq HG.out)
        clear hHeld kc
        go_wp2_with fail
        refine wp_region_held_drew (S := fun w' => Chg ψ3 w' [g]) (by kernel_rfl) ((Chg.refl ψ3 _).drew) (fun hHeld => ?_)
        refine tv (v := (.slice (some ⟨g, 24, none⟩) 8 8)) 0 (some 21) rfl (by kernel_rfl) (fun _ _ _ h => h) rfl rfl (fun w hSw => ?_) hHeld ?_
        · (go_simp; try with_reducible rfl)
        try simp only [Act.put, sA1, sA2, sA3]
        refine tv (v := ?_) 1 (some 22) rfl (by kernel_rfl) (fun _ _ _ h => h) rfl rfl (fun w hSw => ?_) hHeld ?_; rotate_left; (· (go_simp; try with_reducible rfl)); try simp only [Act.put, sA1, sA2, sA3]
        refine tv (v := ?_) 2 (some 23) rfl (by kernel_rfl) (fun _ _ _ h => h) rfl rfl (fun w hSw => ?_) hHeld ?_; rotate_left; (· (go_simp; try with_reducible rfl)); try simp only [Act.put, sA1, sA2, sA3]
        refine tv (v := ?_) 3 (some 24) rfl (by kernel_rfl) (fun _ _ _ h => h) rfl rfl (fun w hSw => ?_) hHeld ?_; rotate_left; (· (go_simp; try with_reducible rfl)); try simp only [Act.put, sA1, sA2, sA3]
        refine tv (v := ?_) 4 (some 25) rfl (by kernel_rfl) (fun _ _ _ h => h) rfl rfl (fun w hSw => ?_) hHeld ?_
        rotate_left
        · have cx := (HZ.chg hSw (by simpa using hne)).cell 3
          (go_simp; try with_reducible rfl)
        try simp only [Act.put, sA1, sA2, sA3]
        refine wpAnyH_ready (rs := [5]) (by kernel_rfl) (by simp) ?_
        refine AllReadyH.cons (o := _) rfl (fun K hK => ?_) ?_
        ·
          go_simp
          refine (putWord_blk g 24 8 W3 q3.1 q3.2 _ 24 _ HA.drew (by simp [z32])).mono ?_
          rintro e ψ4 ⟨rfl, HA', kg⟩
          have kc := Chg.of kg
          clear kg HA
          have HA := HA'
          clear HA'
          go_wp2_with fail
          refine hK.out _ _ (hHeld.trans1 kc) (fun hHeld => ?_)
          clear hK K
          try simp only [Act.put, sA1, sA2, sA3]
          refine wpAnyH_done (by kernel_rfl) ?_ _
          replace HZ := HZ.chg hHeld (by simpa using hne)
          replace CC := CC.new hHeld (Nat.le_of_eq HG.out)
          clear hHeld kc
          have HF : Blk ψ4 g (feC n) 24 := by
            refine Blk.to HA ?_
            rw [← HS.out, ← feC_of W0 W1 W2 W3 q0 q1 q2 q3]
            simp [z32]
          clear HA
          go_wp2_with (first | (refine wpList_load_row rfl 24 _ rfl g rfl 24 _ (0, 0) _ HF Tryz.underlying24 rfl feInfo ?_) | (refine wpList_store_row rfl 24 _ _ rfl g _ rfl rfl 24 _ HF feInfo rfl (feC_one _) ?_))
          refine bodyPost_ret (results_cell_row Tryz.results98 _ _ g 24 (feC n) (0, 0) _ rfl (Blk.setRow HF _) Tryz.underlying24 rfl feInfo) rfl ⟨rfl, ?_⟩
          exact CC.setRowNew (Nat.le_of_eq HG.out) _
        exact AllReadyH.nil
      exact AllReadyH.nil
    exact AllReadyH.nil
  exact AllReadyH.nil
end Go.Proofs.YtoafcaieifjoiaaGreat
