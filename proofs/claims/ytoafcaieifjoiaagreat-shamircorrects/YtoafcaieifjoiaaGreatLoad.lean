/- (*number).load: 32 bytes as a number modulo the order. -/
import Derived.Test.YtoafcaieifjoiaaGreatRed
import Derived.Test.YtoafcaieifjoiaaGreatBytes
set_option linter.unusedVariables false
set_option linter.unusedSimpArgs false
set_option linter.unnecessarySimpa false
namespace Go.Proofs.YtoafcaieifjoiaaGreat
open Go.RowKit N

theorem word_w0 (g : Nat) (n : Int) (w : World) (hb : Blk w g (feC n) 24) :
    Calls Tryz.prog 122 #[.slice (some ⟨g, 0, none⟩) 8 32] w fun e w' => e = .returned (.int .u64 (wrd n 0)) ∧ Chg w w' [] := by
  refine (word_fe0 g 32 n 24 w hb).mono ?_
  rintro e w' ⟨rfl, m, rfl⟩
  rw [wrd0]
  exact ⟨by rw [Int.ediv_one], (Chg.refl w _).drewN m⟩
theorem word_w1 (g : Nat) (n : Int) (w : World) (hb : Blk w g (feC n) 24) :
    Calls Tryz.prog 122 #[.slice (some ⟨g, 8, none⟩) 8 24] w fun e w' => e = .returned (.int .u64 (wrd n 1)) ∧ Chg w w' [] := by
  refine (word_fe1 g 24 n 24 w hb).mono ?_
  rintro e w' ⟨rfl, m, rfl⟩
  rw [wrd1]
  exact ⟨rfl, (Chg.refl w _).drewN m⟩
theorem word_w2 (g : Nat) (n : Int) (w : World) (hb : Blk w g (feC n) 24) :
    Calls Tryz.prog 122 #[.slice (some ⟨g, 16, none⟩) 8 16] w fun e w' => e = .returned (.int .u64 (wrd n 2)) ∧ Chg w w' [] := by
  refine (word_fe2 g 16 n 24 w hb).mono ?_
  rintro e w' ⟨rfl, m, rfl⟩
  rw [wrd2]
  exact ⟨rfl, (Chg.refl w _).drewN m⟩
theorem word_w3 (g : Nat) (n : Int) (w : World) (hb : Blk w g (feC n) 24) :
    Calls Tryz.prog 122 #[.slice (some ⟨g, 24, none⟩) 8 8] w fun e w' => e = .returned (.int .u64 (wrd n 3)) ∧ Chg w w' [] := by
  refine (word_fe3 g 8 n 24 w hb).mono ?_
  rintro e w' ⟨rfl, m, rfl⟩
  rw [wrd3]
  exact ⟨rfl, (Chg.refl w _).drewN m⟩
theorem load_val (n : Int) (h : R256 n) : RL (n % 7237005577332262213973186563042994240829374041602535252466099000494570602496) ∧ RL (n / 7237005577332262213973186563042994240829374041602535252466099000494570602496 * 27742317777372353535851937790883648493) ∧ (n % 7237005577332262213973186563042994240829374041602535252466099000494570602496 - n / 7237005577332262213973186563042994240829374041602535252466099000494570602496 * 27742317777372353535851937790883648493) % L = n % L := by
  unfold RL L R256 at *; omega
theorem load_low (n : Int) (h : R256 n) (h3 : wrd n 3 ≤ 1152921504606846975) : n % L = n := by
  have e : n / 6277101735386680763835789423207666416102355444464034512896 % 18446744073709551616 = n / 6277101735386680763835789423207666416102355444464034512896 := by unfold R256 at h; omega
  rw [wrd3, e] at h3; unfold L R256 at *; omega

set_option maxHeartbeats 4000000 in
set_option maxRecDepth 100000 in
theorem load_any (z g : Nat) (n : Int) (rn : R256 n) (hne : ¬ g = z) (w : World) (hz : An w z) (hg : Blk w g (feC n) 24) :
    Calls Tryz.prog 96 #[.pointer (some ⟨z, 0, none⟩), .pointer (some ⟨g, 0, none⟩)] w fun e w' => e = .returned (.tuple #[]) ∧ NumAt w' z (n % L) ∧ Chg w w' [z] := by
  have hzl := hz.lt
  obtain ⟨x0, x1, x2, x3, HZ⟩ := hz
  obtain ⟨lv0, lv1, lv2⟩ := load_val n rn
  have HLV : Hid ((n % 7237005577332262213973186563042994240829374041602535252466099000494570602496 - n / 7237005577332262213973186563042994240829374041602535252466099000494570602496 * 27742317777372353535851937790883648493) % L = n % L) := lv2
  have hs := wd8_small n rn.1 rn.2
  have HS : Hid (#[.int .u64 (wrd n 0), .int .u64 (wrd n 1), .int .u64 (wrd n 2), .int .u64 (wrd n 3), .int .u64 0, .int .u64 0, .int .u64 0, .int .u64 0] = wd8 n) := hs
  have CC : Chg w w [z] := Chg.refl w _
  have HL : Hid (wrd n 3 ≤ 1152921504606846975 → n % L = n) := load_low n rn
  have H4 : Hid (wd4 n = #[.int .u64 (wrd n 0), .int .u64 (wrd n 1), .int .u64 (wrd n 2), .int .u64 (wrd n 3)]) := rfl
  clear hs lv2
  have S0 := word_w0 g n; have S1 := word_w1 g n; have S2 := word_w2 g n; have S3 := word_w3 g n
  generalize wrd n 0 = W0 at *; generalize wrd n 1 = W1 at *; generalize wrd n 2 = W2 at *; generalize wrd n 3 = W3 at *
  go_enter Tryz.func96, Tryz.ntmps96
  go_wp2_with fail
  refine wp_region_held_drew (S := fun w' => Chg w w' [z]) (by kernel_rfl) ((Chg.refl w _).drew) (fun hHeld => ?_)
  refine tv (v := ?_) 0 (some 6) rfl (by kernel_rfl) (fun _ _ _ h => h) rfl rfl (fun w hSw => ?_) hHeld ?_; rotate_left; (· (go_simp; try with_reducible rfl)); try simp only [Act.put, sA1, sA2, sA3]
  refine tv (v := ?_) 1 (some 7) rfl (by kernel_rfl) (fun _ _ _ h => h) rfl rfl (fun w hSw => ?_) hHeld ?_; rotate_left; (· (go_simp; try with_reducible rfl)); try simp only [Act.put, sA1, sA2, sA3]
  refine tv (v := ?_) 2 (some 8) rfl (by kernel_rfl) (fun _ _ _ h => h) rfl rfl (fun w hSw => ?_) hHeld ?_; rotate_left; (· (go_simp; try with_reducible rfl)); try simp only [Act.put, sA1, sA2, sA3]
  refine tv (v := ?_) 3 (some 9) rfl (by kernel_rfl) (fun _ _ _ h => h) rfl rfl (fun w hSw => ?_) hHeld ?_; rotate_left; (· (go_simp; try with_reducible rfl)); try simp only [Act.put, sA1, sA2, sA3]
  refine tv (v := ?_) 4 (some 10) rfl (by kernel_rfl) (fun _ _ _ h => h) rfl rfl (fun w hSw => ?_) hHeld ?_; rotate_left; (· (go_simp; try with_reducible rfl)); try simp only [Act.put, sA1, sA2, sA3]
  refine tv (v := ?_) 5 (some 11) rfl (by kernel_rfl) (fun _ _ _ h => h) rfl rfl (fun w hSw => ?_) hHeld ?_; rotate_left; (· (go_simp; try with_reducible rfl)); try simp only [Act.put, sA1, sA2, sA3]
  refine tv (v := (.slice (some ⟨g, 0, none⟩) 8 32)) 6 (some 12) rfl (by kernel_rfl) (fun _ _ _ h => h) rfl rfl (fun w hSw => ?_) hHeld ?_
  · (go_simp; try with_reducible rfl)
  try simp only [Act.put, sA1, sA2, sA3]
  refine tv (v := ?_) 8 (some 14) rfl (by kernel_rfl) (fun _ _ _ h => h) rfl rfl (fun w hSw => ?_) hHeld ?_; rotate_left; (· (go_simp; try with_reducible rfl)); try simp only [Act.put, sA1, sA2, sA3]
  refine tv (v := ?_) 9 (some 15) rfl (by kernel_rfl) (fun _ _ _ h => h) rfl rfl (fun w hSw => ?_) hHeld ?_; rotate_left; (· (go_simp; try with_reducible rfl)); try simp only [Act.put, sA1, sA2, sA3]
  refine tv (v := (.slice (some ⟨g, 8, none⟩) 8 24)) 10 (some 16) rfl (by kernel_rfl) (fun _ _ _ h => h) rfl rfl (fun w hSw => ?_) hHeld ?_
  · (go_simp; try with_reducible rfl)
  try simp only [Act.put, sA1, sA2, sA3]
  refine tv (v := ?_) 12 (some 18) rfl (by kernel_rfl) (fun _ _ _ h => h) rfl rfl (fun w hSw => ?_) hHeld ?_; rotate_left; (· (go_simp; try with_reducible rfl)); try simp only [Act.put, sA1, sA2, sA3]
  refine tv (v := ?_) 13 (some 19) rfl (by kernel_rfl) (fun _ _ _ h => h) rfl rfl (fun w hSw => ?_) hHeld ?_; rotate_left; (· (go_simp; try with_reducible rfl)); try simp only [Act.put, sA1, sA2, sA3]
  refine tv (v := (.slice (some ⟨g, 16, none⟩) 8 16)) 14 (some 20) rfl (by kernel_rfl) (fun _ _ _ h => h) rfl rfl (fun w hSw => ?_) hHeld ?_
  · (go_simp; try with_reducible rfl)
  try simp only [Act.put, sA1, sA2, sA3]
  refine tv (v := ?_) 16 (some 22) rfl (by kernel_rfl) (fun _ _ _ h => h) rfl rfl (fun w hSw => ?_) hHeld ?_; rotate_left; (· (go_simp; try with_reducible rfl)); try simp only [Act.put, sA1, sA2, sA3]
  refine tv (v := ?_) 17 (some 23) rfl (by kernel_rfl) (fun _ _ _ h => h) rfl rfl (fun w hSw => ?_) hHeld ?_; rotate_left; (· (go_simp; try with_reducible rfl)); try simp only [Act.put, sA1, sA2, sA3]
  refine tv (v := (.slice (some ⟨g, 24, none⟩) 8 8)) 18 (some 24) rfl (by kernel_rfl) (fun _ _ _ h => h) rfl rfl (fun w hSw => ?_) hHeld ?_
  · (go_simp; try with_reducible rfl)
  try simp only [Act.put, sA1, sA2, sA3]
  refine tv (v := ?_) 20 (some 26) rfl (by kernel_rfl) (fun _ _ _ h => h) rfl rfl (fun w hSw => ?_) hHeld ?_; rotate_left; (· (go_simp; try with_reducible rfl)); try simp only [Act.put, sA1, sA2, sA3]
  refine tv (v := ?_) 23 (some 28) rfl (by kernel_rfl) (fun _ _ _ h => h) rfl rfl (fun w hSw => ?_) hHeld ?_; rotate_left; (· (go_simp; try with_reducible rfl)); try simp only [Act.put, sA1, sA2, sA3]
  refine tv (v := ?_) 26 (some 30) rfl (by kernel_rfl) (fun _ _ _ h => h) rfl rfl (fun w hSw => ?_) hHeld ?_; rotate_left; (· (go_simp; try with_reducible rfl)); try simp only [Act.put, sA1, sA2, sA3]
  refine tv (v := ?_) 29 (some 32) rfl (by kernel_rfl) (fun _ _ _ h => h) rfl rfl (fun w hSw => ?_) hHeld ?_; rotate_left; (· (go_simp; try with_reducible rfl)); try simp only [Act.put, sA1, sA2, sA3]
  refine wpAnyH_ready (rs := [7]) (by kernel_rfl) (by simp) ?_
  refine AllReadyH.cons (o := _) rfl (fun K hK => ?_) ?_
  ·
    go_simp
    refine (S0 _ (hg.chg hHeld (by simpa using hne))).mono ?_
    rintro e ψ1 ⟨rfl, kc⟩
    go_wp2_with fail
    refine hK.out _ _ (hHeld.trans1 kc.wide) (fun hHeld => ?_)
    clear hK K
    try simp only [Act.put, sA1, sA2, sA3]
    replace HZ := HZ.drew.chg kc (by simp)
    clear kc
    refine wpAnyH_ready (rs := [11]) (by kernel_rfl) (by simp) ?_
    refine AllReadyH.cons (o := _) rfl (fun K hK => ?_) ?_
    ·
      go_simp
      refine (S1 _ (hg.chg hHeld (by simpa using hne))).mono ?_
      rintro e ψ2 ⟨rfl, kc⟩
      go_wp2_with fail
      refine hK.out _ _ (hHeld.trans1 kc.wide) (fun hHeld => ?_)
      clear hK K
      try simp only [Act.put, sA1, sA2, sA3]
      replace HZ := HZ.chg kc (by simp)
      clear kc
      refine wpAnyH_ready (rs := [15]) (by kernel_rfl) (by simp) ?_
      refine AllReadyH.cons (o := _) rfl (fun K hK => ?_) ?_
      ·
        go_simp
        refine (S2 _ (hg.chg hHeld (by simpa using hne))).mono ?_
        rintro e ψ3 ⟨rfl, kc⟩
        go_wp2_with fail
        refine hK.out _ _ (hHeld.trans1 kc.wide) (fun hHeld => ?_)
        clear hK K
        try simp only [Act.put, sA1, sA2, sA3]
        replace HZ := HZ.chg kc (by simp)
        clear kc
        refine wpAnyH_ready (rs := [19]) (by kernel_rfl) (by simp) ?_
        refine AllReadyH.cons (o := _) rfl (fun K hK => ?_) ?_
        ·
          go_simp
          refine (S3 _ (hg.chg hHeld (by simpa using hne))).mono ?_
          rintro e ψ4 ⟨rfl, kc⟩
          go_wp2_with fail
          refine hK.out _ _ (hHeld.trans1 kc.wide) (fun hHeld => ?_)
          clear hK K
          try simp only [Act.put, sA1, sA2, sA3]
          replace HZ := HZ.chg kc (by simp)
          clear kc
          refine tv (v := ?_) 21 (some 27) rfl (by kernel_rfl) (fun _ _ _ h => h) rfl rfl (fun w hSw => ?_) hHeld ?_; rotate_left; (· (go_simp; try with_reducible rfl)); try simp only [Act.put, sA1, sA2, sA3]
          refine wpAnyH_ready (rs := [22]) (by kernel_rfl) (by simp) ?_
          refine AllReadyH.cons (o := _) rfl (fun K hK => ?_) ?_
          ·
            have ck := HZ.cell 0
            have fk := HZ.frozen 0
            simp at ck
            rw [if_pos (by rfl)]
            go_simp
            refine hK.out _ _ (hHeld.setIn (by simp) _ _) (fun hHeld => ?_)
            clear hK K
            try simp only [Act.put, sA1, sA2, sA3]
            replace HZ := HZ.setCell 0 (.int .u64 W0)
            simp only [sA1, sA2, sA3] at HZ
            clear ck fk
            generalize World.setCell ψ4 ⟨z, 0, none⟩ (.int .u64 W0) = ω1 at *
            refine tv (v := ?_) 24 (some 29) rfl (by kernel_rfl) (fun _ _ _ h => h) rfl rfl (fun w hSw => ?_) hHeld ?_; rotate_left; (· (go_simp; try with_reducible rfl)); try simp only [Act.put, sA1, sA2, sA3]
            refine wpAnyH_ready (rs := [25]) (by kernel_rfl) (by simp) ?_
            refine AllReadyH.cons (o := _) rfl (fun K hK => ?_) ?_
            ·
              have ck := HZ.cell 1
              have fk := HZ.frozen 1
              simp at ck
              rw [if_pos (by rfl)]
              go_simp
              refine hK.out _ _ (hHeld.setIn (by simp) _ _) (fun hHeld => ?_)
              clear hK K
              try simp only [Act.put, sA1, sA2, sA3]
              replace HZ := HZ.setCell 1 (.int .u64 W1)
              simp only [sA1, sA2, sA3] at HZ
              clear ck fk
              generalize World.setCell ω1 ⟨z, 1, none⟩ (.int .u64 W1) = ω2 at *
              refine tv (v := ?_) 27 (some 31) rfl (by kernel_rfl) (fun _ _ _ h => h) rfl rfl (fun w hSw => ?_) hHeld ?_; rotate_left; (· (go_simp; try with_reducible rfl)); try simp only [Act.put, sA1, sA2, sA3]
              refine wpAnyH_ready (rs := [28]) (by kernel_rfl) (by simp) ?_
              refine AllReadyH.cons (o := _) rfl (fun K hK => ?_) ?_
              ·
                have ck := HZ.cell 2
                have fk := HZ.frozen 2
                simp at ck
                rw [if_pos (by rfl)]
                go_simp
                refine hK.out _ _ (hHeld.setIn (by simp) _ _) (fun hHeld => ?_)
                clear hK K
                try simp only [Act.put, sA1, sA2, sA3]
                replace HZ := HZ.setCell 2 (.int .u64 W2)
                simp only [sA1, sA2, sA3] at HZ
                clear ck fk
                generalize World.setCell ω2 ⟨z, 2, none⟩ (.int .u64 W2) = ω3 at *
                refine tv (v := ?_) 30 (some 33) rfl (by kernel_rfl) (fun _ _ _ h => h) rfl rfl (fun w hSw => ?_) hHeld ?_; rotate_left; (· (go_simp; try with_reducible rfl)); try simp only [Act.put, sA1, sA2, sA3]
                refine wpAnyH_ready (rs := [31]) (by kernel_rfl) (by simp) ?_
                refine AllReadyH.cons (o := _) rfl (fun K hK => ?_) ?_
                ·
                  have ck := HZ.cell 3
                  have fk := HZ.frozen 3
                  simp at ck
                  rw [if_pos (by rfl)]
                  go_simp
                  refine hK.out _ _ (hHeld.setIn (by simp) _ _) (fun hHeld => ?_)
                  clear hK K
                  try simp only [Act.put, sA1, sA2, sA3]
                  replace HZ := HZ.setCell 3 (.int .u64 W3)
                  simp only [sA1, sA2, sA3] at HZ
                  clear ck fk
                  generalize World.setCell ω3 ⟨z, 3, none⟩ (.int .u64 W3) = ω4 at *
                  refine wpAnyH_done (by kernel_rfl) ?_ _
                  have HN : NumAt ω4 z n := by unfold NumAt; rw [H4.out]; exact HZ
                  replace CC := hHeld
                  clear hHeld S0 S1 S2 S3 hg
                  have c0 := HZ.cell 0; have c1 := HZ.cell 1; have c2 := HZ.cell 2; have c3 := HZ.cell 3
                  simp at c0 c1 c2 c3
                  have hz4 : z < ω4.heap.size := HZ.lt
                  by_cases h3 : 1152921504606846975 < W3
                  · go_wp2_with fail
                    have A0 := NumAt.new ω4
                    have hl : w.heap.size ≤ ω4.heap.size := CC.size
                    replace HN := HN.alloc (.cells #[.int .u64 0, .int .u64 0, .int .u64 0, .int .u64 0] 162)
                    replace HZ := HZ.alloc (.cells #[.int .u64 0, .int .u64 0, .int .u64 0, .int .u64 0] 162)
                    replace CC := CC.alloc (.cells #[.int .u64 0, .int .u64 0, .int .u64 0, .int .u64 0] 162)
                    clear c0 c1 c2 c3
                    change Code.wp _ _ _ _ (ω4.alloc (.cells #[.int .u64 0, .int .u64 0, .int .u64 0, .int .u64 0] 162))
                    generalize hlz : ω4.heap.size = l at *
                    have hll : l < (ω4.alloc (.cells #[.int .u64 0, .int .u64 0, .int .u64 0, .int .u64 0] 162)).heap.size := A0.lt
                    generalize hv5 : ω4.alloc (.cells #[.int .u64 0, .int .u64 0, .int .u64 0, .int .u64 0] 162) = ω5 at *
                    clear hv5 hlz
                    refine wp_region_held_drew (S := fun w' => Chg ω5 w' []) (by kernel_rfl) ((Chg.refl ω5 _).drew) (fun hHeld => ?_)
                    refine tv (v := ?_) 0 (some 39) rfl (by kernel_rfl) (fun _ _ _ h => h) rfl rfl (fun w hSw => ?_) hHeld ?_; rotate_left; (· (go_simp; try with_reducible rfl)); try simp only [Act.put, sA1, sA2, sA3]
                    refine tv (v := ?_) 1 (some 40) rfl (by kernel_rfl) (fun _ _ _ h => h) rfl rfl (fun w hSw => ?_) hHeld ?_; rotate_left; (· (go_simp; try with_reducible rfl)); try simp only [Act.put, sA1, sA2, sA3]
                    refine tv (v := ?_) 2 (some 41) rfl (by kernel_rfl) (fun _ _ _ h => h) rfl rfl (fun w hSw => ?_) hHeld ?_; rotate_left; (· (go_simp; try with_reducible rfl)); try simp only [Act.put, sA1, sA2, sA3]
                    refine tv (v := ?_) 3 (some 42) rfl (by kernel_rfl) (fun _ _ _ h => h) rfl rfl (fun w hSw => ?_) hHeld ?_
                    rotate_left
                    · have cx := (HZ.chg hSw (by simp)).cell 0
                      (go_simp; try with_reducible rfl)
                    try simp only [Act.put, sA1, sA2, sA3]
                    refine tv (v := ?_) 4 (some 43) rfl (by kernel_rfl) (fun _ _ _ h => h) rfl rfl (fun w hSw => ?_) hHeld ?_; rotate_left; (· (go_simp; try with_reducible rfl)); try simp only [Act.put, sA1, sA2, sA3]
                    refine tv (v := ?_) 5 (some 44) rfl (by kernel_rfl) (fun _ _ _ h => h) rfl rfl (fun w hSw => ?_) hHeld ?_; rotate_left; (· (go_simp; try with_reducible rfl)); try simp only [Act.put, sA1, sA2, sA3]
                    refine tv (v := ?_) 6 (some 45) rfl (by kernel_rfl) (fun _ _ _ h => h) rfl rfl (fun w hSw => ?_) hHeld ?_; rotate_left; (· (go_simp; try with_reducible rfl)); try simp only [Act.put, sA1, sA2, sA3]
                    refine tv (v := ?_) 7 (some 46) rfl (by kernel_rfl) (fun _ _ _ h => h) rfl rfl (fun w hSw => ?_) hHeld ?_
                    rotate_left
                    · have cx := (HZ.chg hSw (by simp)).cell 1
                      (go_simp; try with_reducible rfl)
                    try simp only [Act.put, sA1, sA2, sA3]
                    refine tv (v := ?_) 8 (some 47) rfl (by kernel_rfl) (fun _ _ _ h => h) rfl rfl (fun w hSw => ?_) hHeld ?_; rotate_left; (· (go_simp; try with_reducible rfl)); try simp only [Act.put, sA1, sA2, sA3]
                    refine tv (v := ?_) 9 (some 48) rfl (by kernel_rfl) (fun _ _ _ h => h) rfl rfl (fun w hSw => ?_) hHeld ?_; rotate_left; (· (go_simp; try with_reducible rfl)); try simp only [Act.put, sA1, sA2, sA3]
                    refine tv (v := ?_) 10 (some 49) rfl (by kernel_rfl) (fun _ _ _ h => h) rfl rfl (fun w hSw => ?_) hHeld ?_; rotate_left; (· (go_simp; try with_reducible rfl)); try simp only [Act.put, sA1, sA2, sA3]
                    refine tv (v := ?_) 11 (some 50) rfl (by kernel_rfl) (fun _ _ _ h => h) rfl rfl (fun w hSw => ?_) hHeld ?_
                    rotate_left
                    · have cx := (HZ.chg hSw (by simp)).cell 2
                      (go_simp; try with_reducible rfl)
                    try simp only [Act.put, sA1, sA2, sA3]
                    refine tv (v := ?_) 12 (some 51) rfl (by kernel_rfl) (fun _ _ _ h => h) rfl rfl (fun w hSw => ?_) hHeld ?_; rotate_left; (· (go_simp; try with_reducible rfl)); try simp only [Act.put, sA1, sA2, sA3]
                    refine tv (v := ?_) 13 (some 52) rfl (by kernel_rfl) (fun _ _ _ h => h) rfl rfl (fun w hSw => ?_) hHeld ?_; rotate_left; (· (go_simp; try with_reducible rfl)); try simp only [Act.put, sA1, sA2, sA3]
                    refine tv (v := ?_) 14 (some 53) rfl (by kernel_rfl) (fun _ _ _ h => h) rfl rfl (fun w hSw => ?_) hHeld ?_; rotate_left; (· (go_simp; try with_reducible rfl)); try simp only [Act.put, sA1, sA2, sA3]
                    refine tv (v := ?_) 15 (some 54) rfl (by kernel_rfl) (fun _ _ _ h => h) rfl rfl (fun w hSw => ?_) hHeld ?_
                    rotate_left
                    · have cx := (HZ.chg hSw (by simp)).cell 3
                      (go_simp; try with_reducible rfl)
                    try simp only [Act.put, sA1, sA2, sA3]
                    refine tv (v := ?_) 16 (some 55) rfl (by kernel_rfl) (fun _ _ _ h => h) rfl rfl (fun w hSw => ?_) hHeld ?_; rotate_left; (· (go_simp; try with_reducible rfl)); try simp only [Act.put, sA1, sA2, sA3]
                    refine wpAnyH_ready (rs := [17]) (by kernel_rfl) (by simp) ?_
                    refine AllReadyH.cons (o := _) rfl (fun K hK => ?_) ?_
                    ·
                      rw [if_pos (by rfl)]
                      go_simp
                      refine hK.out _ _ (hHeld.alloc _) (fun hHeld => ?_)
                      clear hK K
                      try simp only [Act.put, sA1, sA2, sA3]
                      refine wpAnyH_ready (rs := [18]) (by kernel_rfl) (by simp) ?_
                      refine AllReadyH.cons (o := _) rfl (fun K hK => ?_) ?_
                      ·
                        rw [if_pos (by rfl)]
                        refine wp_store_row 202 _ _ rfl ω5.heap.size _ rfl rfl 202 _ (Blk.new ω5 #[.int .u64 0, .int .u64 0, .int .u64 0, .int .u64 0, .int .u64 0, .int .u64 0, .int .u64 0, .int .u64 0] 202).drew wideInfo rfl (by simp [Value.oneCell']) ?_
                        refine hK.out _ _ (hHeld.setRowNew (Nat.le_refl _) _) (fun hHeld => ?_)
                        clear hK K
                        try simp only [Act.put, sA1, sA2, sA3]
                        refine wpAnyH_done (by kernel_rfl) ?_ _
                        have HW : WideAt (((ω5.alloc (.cells #[.int .u64 0, .int .u64 0, .int .u64 0, .int .u64 0, .int .u64 0, .int .u64 0, .int .u64 0, .int .u64 0] 202)).drew).setRow ω5.heap.size #[.int .u64 W0, .int .u64 W1, .int .u64 W2, .int .u64 W3, .int .u64 0, .int .u64 0, .int .u64 0, .int .u64 0]) ω5.heap.size n := by
                          have h := ((Blk.new ω5 #[.int .u64 0, .int .u64 0, .int .u64 0, .int .u64 0, .int .u64 0, .int .u64 0, .int .u64 0, .int .u64 0] 202).drew).setRow #[.int .u64 W0, .int .u64 W1, .int .u64 W2, .int .u64 W3, .int .u64 0, .int .u64 0, .int .u64 0, .int .u64 0]
                          rw [HS.out] at h
                          rw [HS.out]
                          exact h
                        replace HN := HN.chg hHeld (by simp)
                        replace A0 := A0.chg hHeld (by simp)
                        replace CC := CC.trans1 hHeld.wide
                        clear hHeld HZ HS HL H4
                        generalize ((ω5.alloc (.cells #[.int .u64 0, .int .u64 0, .int .u64 0, .int .u64 0, .int .u64 0, .int .u64 0, .int .u64 0, .int .u64 0] 202)).drew).setRow ω5.heap.size #[.int .u64 W0, .int .u64 W1, .int .u64 W2, .int .u64 W3, .int .u64 0, .int .u64 0, .int .u64 0, .int .u64 0] = ω6 at *
                        generalize hq : ω5.heap.size = q at *
                        clear hq
                        go_wp2_with fail
                        refine (fold_any q l n rn.1 (by unfold R256 at rn; omega) (by omega) _ HW A0.an).mono ?_
                        rintro e ω7 ⟨rfl, n1, m1, k1⟩
                        replace HN := HN.chg k1 (by simp; omega)
                        replace CC := CC.trans k1 (by simp; omega)
                        clear HW A0 k1
                        have d0 := m1.c0; have d1 := m1.c1; have d2 := m1.c2; have d3 := m1.c3
                        have n2 : NumAt (ω7.alloc (.cells (wd4 (n / 7237005577332262213973186563042994240829374041602535252466099000494570602496 * 27742317777372353535851937790883648493)) 162)) ω7.heap.size (n / 7237005577332262213973186563042994240829374041602535252466099000494570602496 * 27742317777372353535851937790883648493) := Blk.new ω7 _ _
                        go_wp2_with fail
                        refine (sub_any z l ω7.heap.size _ _ lv0 lv1 _ (HN.an.alloc _) (n1.alloc _) n2).mono ?_
                        rintro e ω8 ⟨rfl, n3, k3⟩
                        rw [HLV.out] at n3
                        go_wp2_with fail
                        go_end0
                        exact ⟨rfl, n3, (CC.alloc _).trans1 (Chg.of k3)⟩
                      exact AllReadyH.nil
                    exact AllReadyH.nil
                  · have hn := HL.out (by omega)
                    go_wp2_with fail
                    go_end0
                    try rw [hn]
                    exact ⟨rfl, HN, CC⟩
                exact AllReadyH.nil
              exact AllReadyH.nil
            exact AllReadyH.nil
          exact AllReadyH.nil
        exact AllReadyH.nil
      exact AllReadyH.nil
    exact AllReadyH.nil
  exact AllReadyH.nil
end Go.Proofs.YtoafcaieifjoiaaGreat
