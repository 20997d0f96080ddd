/- (*Given).Intact, where only Bytes was called. -/
import Derived.Test.YtachilkhbfpahaaSamB
set_option linter.unusedVariables false
set_option linter.unusedSimpArgs false
set_option linter.unnecessarySimpa false
namespace Go.Proofs.Ytachilkhbfpahaa
open Go.RowKit

theorem cell_chg2 {w w' : World} {g k : Nat} {v : Value} (h : w.cell? ⟨g, k, none⟩ = some v) (hc : Chg w w' []) : w'.cell? ⟨g, k, none⟩ = some v := by
  have hl : g < w.heap.size := by
    by_cases hl : g < w.heap.size
    · exact hl
    · simp [World.cell?, Array.getElem?_eq_none (Nat.le_of_not_lt hl)] at h
  rw [← h]
  simp only [World.cell?, hc.block g hl (by simp)]
/-- The lists at p as the walk reads them. -/
theorem Gv.read {w : World} {gb base : Nat} {G : Nat → Value} {p : Nat} {TG TE T : TypeId} {s Kn : Nat} {N : Nat → Nat} {F : Nat → Nat → List Value} (h : Gv w gb base G p TG TE T s Kn N F) :
    ∃ pa ca pb cb, G p = .slice pa Kn ca ∧ G (p + 1) = .slice pb Kn cb ∧ ∀ j, j < Kn → ∃ lg mg x y, pa = some ⟨lg, 0, none⟩ ∧ pb = some ⟨mg, 0, none⟩ ∧ w.cell? ⟨lg, j, none⟩ = some x ∧ w.cell? ⟨mg, j, none⟩ = some y ∧ Rl w s x (N j) (F j) ∧ Rl w s y (N j) (F j) := by
  obtain ⟨vs, us, l1, l2, hd, hj⟩ := h.lists
  by_cases h0 : Kn = 0
  · subst h0
    have f1 : ∃ pa ca, G p = .slice pa 0 ca := by
      rcases l1.2 with ⟨e, _⟩ | ⟨g, cap, cur, e, _⟩
      · exact ⟨_, _, e⟩
      · exact ⟨_, _, e⟩
    have f2 : ∃ pa ca, G (p + 1) = .slice pa 0 ca := by
      rcases l2.2 with ⟨e, _⟩ | ⟨g, cap, cur, e, _⟩
      · exact ⟨_, _, e⟩
      · exact ⟨_, _, e⟩
    obtain ⟨pa, ca, e1⟩ := f1
    obtain ⟨pb, cb, e2⟩ := f2
    exact ⟨pa, ca, pb, cb, e1, e2, fun j hj => by omega⟩
  · obtain ⟨lg, ca, e1, _, _⟩ := l1.form (by omega)
    obtain ⟨mg, cb, e2, _, _⟩ := l2.form (by omega)
    refine ⟨_, ca, _, cb, e1, e2, fun j hjk => ?_⟩
    obtain ⟨o, x, q1, q2, q3, q4, q5⟩ := hj j hjk
    rw [e1] at l1
    rw [e2] at l2
    refine ⟨lg, mg, _, x, rfl, rfl, ownsRow_cell l1 q1, ownsRow_cell l2 q2, ⟨q5.2, Or.inr ⟨o, 0, N j, rfl, Nat.le_refl _, q3, q4.lt, fun i hi => ?_⟩⟩, q5.rl⟩
    rw [Nat.zero_add]
    exact q4.rangeRw q5.2 hi
set_option maxHeartbeats 16000000 in
set_option maxRecDepth 100000 in
theorem Intact_b (gb base Kn : Nat) (G : Nat → Value) (N : Nat → Nat) (F : Nat → Nat → List Value) (w : World) (hK : Kn ≤ 1000000) (hG : Gv w gb base G 0 44 27 5 1 Kn N F)
    (hz : ∀ q, q < 30 → ¬ q = 0 → ¬ q = 1 → G q = .slice none 0 0) (hN : ∀ j, j < Kn → N j ≤ 140737488355328) (hF : ∀ j, j < Kn → ∃ f : Nat → Nat, F j = bR f ∧ ∀ i, i < N j → f i < 256) :
    Calls Try.prog 16 #[.pointer (some ⟨gb, 0, none⟩)] w fun e w' => e = .returned (.bool true) ∧ Chg w w' [] := by
  have hg := hG.gb
  obtain ⟨pa, ca, pb, cb, e1, e2, hrd⟩ := hG.read
  have HZ : Hid (∀ q, q < 30 → ¬ q = 0 → ¬ q = 1 → G q = .slice none 0 0) := hz
  have HRD : Hid (∀ j, j < Kn → ∃ lg mg x y, pa = some ⟨lg, 0, none⟩ ∧ pb = some ⟨mg, 0, none⟩ ∧ w.cell? ⟨lg, j, none⟩ = some x ∧ w.cell? ⟨mg, j, none⟩ = some y ∧ Rl w 1 x (N j) (F j) ∧ Rl w 1 y (N j) (F j)) := hrd
  have HN : Hid (∀ j, j < Kn → N j ≤ 140737488355328) := hN
  have HF : Hid (∀ j, j < Kn → ∃ f : Nat → Nat, F j = bR f ∧ ∀ i, i < N j → f i < 256) := hF
  have HE1 : Hid (G 0 = .slice pa Kn ca) := e1
  have HE2 : Hid (G 1 = .slice pb Kn cb) := e2
  have HG : Hid (Blk w gb (gvC G) 44) := hg
  clear hz hrd hN hF e1 e2 hG hg
  go_enter Try.func16, Try.ntmps16
  have cc : Chg w w [] := Chg.refl w []
  go_wp2_with fail
  go_loopw [3] (fun t wr => ∃ i : Nat, i ≤ Kn ∧ t = .int .i64 (i : Int) ∧ Chg w wr []) (fun t _ => ((Kn : Int) - intOf t).toNat)
  case atStart => exact ⟨0, Nat.zero_le _, rfl, cc⟩
  case round =>
    clear cc
    obtain ⟨i, hi, rfl, cc⟩ := hrel
    have c0 := ((HG.out.chg cc (by simp)).cell 0).trans (gvC_get G 0 (by decide))
    rw [HE1.out] at c0
    by_cases h8 : i < Kn
    · have hI : (i : Int) < (Kn : Int) := by omega
      have hI0 : (0 : Int) ≤ (i : Int) := by omega
      have HI1 : Hid (i + 1 ≤ Kn) := h8
      have HM : Hid (((Kn : Int) - intOf (.int .i64 ((i : Int) + 1))).toNat < ((Kn : Int) - intOf (.int .i64 (i : Int))).toNat) := by show ((Kn : Int) - intOf (.int .i64 ((i : Int) + 1))).toNat < ((Kn : Int) - intOf (.int .i64 (i : Int))).toNat; simp [intOf]; omega
      obtain ⟨lg, mg, x, y, rfl, rfl, cl, cm, rx, ry⟩ := HRD.out i h8
      obtain ⟨f, hf1, hf2⟩ := HF.out i h8
      have HNI : Hid (N i ≤ 140737488355328) := HN.out i h8
      have XL : Hid (Sl wr x (N i) f) := Rl.sl (hf1 ▸ rx.chg cc (Off.nil _)) hf2
      have YL : Hid (Sl wr y (N i) f) := Rl.sl (hf1 ▸ ry.chg cc (Off.nil _)) hf2
      have CL : Hid (wr.cell? ⟨lg, i, none⟩ = some x) := cell_chg2 cl cc
      have CM : Hid (wr.cell? ⟨mg, i, none⟩ = some y) := cell_chg2 cm cc
      have HGR : Hid (Blk wr gb (gvC G) 44) := HG.out.chg cc (by simp)
      clear cl cm rx ry hf1 hf2 h8 hi HRD HF HN
      go_wp2_with fail
      refine wp_region_held_drew (S := fun w' => Chg wr w' []) (by kernel_rfl) ((Chg.refl wr _).drew) (fun hHeld => ?_)
      refine take_val (v := ?_) 0 (some 27) rfl (by kernel_rfl) (by kernel_rfl) (by kernel_rfl) (fun _ _ _ h => h) rfl rfl (fun w hSw => ?_) hHeld ?_
      rotate_left
      · (go_simp; try with_reducible rfl)
      try simp only [Act.put, List.setIfInBounds_toArray, List.set_cons_zero, List.set_cons_succ]
      refine take_val (v := ?_) 1 (some 28) rfl (by kernel_rfl) (by kernel_rfl) (by kernel_rfl) (fun _ _ _ h => h) rfl rfl (fun w hSw => ?_) hHeld ?_
      rotate_left
      · (go_simp; try with_reducible rfl)
      try simp only [Act.put, List.setIfInBounds_toArray, List.set_cons_zero, List.set_cons_succ]
      refine take_val (v := ?_) 2 (some 29) rfl (by kernel_rfl) (by kernel_rfl) (by kernel_rfl) (fun _ _ _ h => h) rfl rfl (fun w hSw => ?_) hHeld ?_
      rotate_left
      · (go_simp; try with_reducible rfl)
      try simp only [Act.put, List.setIfInBounds_toArray, List.set_cons_zero, List.set_cons_succ]
      refine take_val (v := (Value.slice (some ⟨lg, 0, none⟩) Kn ca)) 3 (some 30) rfl (by kernel_rfl) (by kernel_rfl) (by kernel_rfl) (fun _ _ _ h => h) rfl rfl (fun w hSw => ?_) hHeld ?_
      · have cx := (HGR.out.chg hSw (by simp)).cell 0
        rw [gvC_get G 0 (by decide), HE1.out] at cx
        (go_simp; try with_reducible rfl)
      try simp only [Act.put, List.setIfInBounds_toArray, List.set_cons_zero, List.set_cons_succ]
      refine take_val (v := ?_) 4 (some 31) rfl (by kernel_rfl) (by kernel_rfl) (by kernel_rfl) (fun _ _ _ h => h) rfl rfl (fun w hSw => ?_) hHeld ?_
      rotate_left
      · (go_simp; try with_reducible rfl)
      try simp only [Act.put, List.setIfInBounds_toArray, List.set_cons_zero, List.set_cons_succ]
      refine take_val (v := ?_) 5 (some 32) rfl (by kernel_rfl) (by kernel_rfl) (by kernel_rfl) (fun _ _ _ h => h) rfl rfl (fun w hSw => ?_) hHeld ?_
      rotate_left
      · (go_simp; try with_reducible rfl)
      try simp only [Act.put, List.setIfInBounds_toArray, List.set_cons_zero, List.set_cons_succ]
      refine take_val (v := (x)) 6 (some 33) rfl (by kernel_rfl) (by kernel_rfl) (by kernel_rfl) (fun _ _ _ h => h) rfl rfl (fun w hSw => ?_) hHeld ?_
      · have cx := cell_chg2 CL.out hSw
        (go_simp; try with_reducible rfl)
      try simp only [Act.put, List.setIfInBounds_toArray, List.set_cons_zero, List.set_cons_succ]
      refine take_val (v := ?_) 7 (some 34) rfl (by kernel_rfl) (by kernel_rfl) (by kernel_rfl) (fun _ _ _ h => h) rfl rfl (fun w hSw => ?_) hHeld ?_
      rotate_left
      · (go_simp; try with_reducible rfl)
      try simp only [Act.put, List.setIfInBounds_toArray, List.set_cons_zero, List.set_cons_succ]
      refine take_val (v := ?_) 8 (some 35) rfl (by kernel_rfl) (by kernel_rfl) (by kernel_rfl) (fun _ _ _ h => h) rfl rfl (fun w hSw => ?_) hHeld ?_
      rotate_left
      · (go_simp; try with_reducible rfl)
      try simp only [Act.put, List.setIfInBounds_toArray, List.set_cons_zero, List.set_cons_succ]
      refine take_val (v := ?_) 9 (some 36) rfl (by kernel_rfl) (by kernel_rfl) (by kernel_rfl) (fun _ _ _ h => h) rfl rfl (fun w hSw => ?_) hHeld ?_
      rotate_left
      · (go_simp; try with_reducible rfl)
      try simp only [Act.put, List.setIfInBounds_toArray, List.set_cons_zero, List.set_cons_succ]
      refine take_val (v := (Value.slice (some ⟨mg, 0, none⟩) Kn cb)) 10 (some 37) rfl (by kernel_rfl) (by kernel_rfl) (by kernel_rfl) (fun _ _ _ h => h) rfl rfl (fun w hSw => ?_) hHeld ?_
      · have cx := (HGR.out.chg hSw (by simp)).cell 1
        rw [gvC_get G 1 (by decide), HE2.out] at cx
        (go_simp; try with_reducible rfl)
      try simp only [Act.put, List.setIfInBounds_toArray, List.set_cons_zero, List.set_cons_succ]
      refine take_val (v := ?_) 11 (some 38) rfl (by kernel_rfl) (by kernel_rfl) (by kernel_rfl) (fun _ _ _ h => h) rfl rfl (fun w hSw => ?_) hHeld ?_
      rotate_left
      · (go_simp; try with_reducible rfl)
      try simp only [Act.put, List.setIfInBounds_toArray, List.set_cons_zero, List.set_cons_succ]
      refine take_val (v := ?_) 12 (some 39) rfl (by kernel_rfl) (by kernel_rfl) (by kernel_rfl) (fun _ _ _ h => h) rfl rfl (fun w hSw => ?_) hHeld ?_
      rotate_left
      · (go_simp; try with_reducible rfl)
      try simp only [Act.put, List.setIfInBounds_toArray, List.set_cons_zero, List.set_cons_succ]
      refine take_val (v := (y)) 13 (some 40) rfl (by kernel_rfl) (by kernel_rfl) (by kernel_rfl) (fun _ _ _ h => h) rfl rfl (fun w hSw => ?_) hHeld ?_
      · have cx := cell_chg2 CM.out hSw
        (go_simp; try with_reducible rfl)
      try simp only [Act.put, List.setIfInBounds_toArray, List.set_cons_zero, List.set_cons_succ]
      refine wpAnyH_ready (rs := [14]) (by kernel_rfl) (by simp) ?_
      refine AllReadyH.cons (o := _) rfl (fun K hK => ?_) ?_
      ·
        go_simp
        refine (SameBytes_any x y (N i) f _ ((XL.out.chg hHeld (Off.nil _))) ((YL.out.chg hHeld (Off.nil _)))).mono ?_
        rintro e v7 ⟨rfl, k7⟩
        go_wp2_with fail
        refine hK.out _ _ (hHeld.trans1 k7) (fun hHeld => ?_)
        clear hK K
        try simp only [Act.put, List.setIfInBounds_toArray, List.set_cons_zero, List.set_cons_succ]
        refine take_val (v := ?_) 15 (some 42) rfl (by kernel_rfl) (by kernel_rfl) (by kernel_rfl) (fun _ _ _ h => h) rfl rfl (fun w hSw => ?_) hHeld ?_
        rotate_left
        · (go_simp; try with_reducible rfl)
        try simp only [Act.put, List.setIfInBounds_toArray, List.set_cons_zero, List.set_cons_succ]
        refine wpAnyH_done (by kernel_rfl) ?_ _
        go_wp2_with fail
        exact ⟨⟨i + 1, HI1.out, by go_num, cc.trans1 hHeld⟩, HM.out⟩
      exact AllReadyH.nil
    · have h9 : i = Kn := by omega
      subst h9
      have hI : ¬ (i : Int) < (i : Int) := by omega
      go_wp2_with fail
      go_loopw [4] (fun t wr => t = .int .i64 0 ∧ Chg w wr []) (fun _ _ => 0)
      case atStart => exact ⟨rfl, cc⟩
      case round =>
        clear cc c0
        obtain ⟨rfl, cc⟩ := hrel
        have c0 := ((HG.out.chg cc (by simp)).cell 2).trans (gvC_get G 2 (by decide))
        rw [HZ.out 2 (by decide) (by decide) (by decide)] at c0
        go_wp2_with fail
        go_loopw [5] (fun t wr => t = .int .i64 0 ∧ Chg w wr []) (fun _ _ => 0)
        case atStart => exact ⟨rfl, cc⟩
        case round =>
          clear cc c0
          obtain ⟨rfl, cc⟩ := hrel
          have c0 := ((HG.out.chg cc (by simp)).cell 4).trans (gvC_get G 4 (by decide))
          rw [HZ.out 4 (by decide) (by decide) (by decide)] at c0
          go_wp2_with fail
          go_loopw [6] (fun t wr => t = .int .i64 0 ∧ Chg w wr []) (fun _ _ => 0)
          case atStart => exact ⟨rfl, cc⟩
          case round =>
            clear cc c0
            obtain ⟨rfl, cc⟩ := hrel
            have c0 := ((HG.out.chg cc (by simp)).cell 6).trans (gvC_get G 6 (by decide))
            rw [HZ.out 6 (by decide) (by decide) (by decide)] at c0
            go_wp2_with fail
            go_loopw [7] (fun t wr => t = .int .i64 0 ∧ Chg w wr []) (fun _ _ => 0)
            case atStart => exact ⟨rfl, cc⟩
            case round =>
              clear cc c0
              obtain ⟨rfl, cc⟩ := hrel
              have c0 := ((HG.out.chg cc (by simp)).cell 8).trans (gvC_get G 8 (by decide))
              rw [HZ.out 8 (by decide) (by decide) (by decide)] at c0
              go_wp2_with fail
              go_loopw [8] (fun t wr => t = .int .i64 0 ∧ Chg w wr []) (fun _ _ => 0)
              case atStart => exact ⟨rfl, cc⟩
              case round =>
                clear cc c0
                obtain ⟨rfl, cc⟩ := hrel
                have c0 := ((HG.out.chg cc (by simp)).cell 10).trans (gvC_get G 10 (by decide))
                rw [HZ.out 10 (by decide) (by decide) (by decide)] at c0
                go_wp2_with fail
                go_loopw [9] (fun t wr => t = .int .i64 0 ∧ Chg w wr []) (fun _ _ => 0)
                case atStart => exact ⟨rfl, cc⟩
                case round =>
                  clear cc c0
                  obtain ⟨rfl, cc⟩ := hrel
                  have c0 := ((HG.out.chg cc (by simp)).cell 12).trans (gvC_get G 12 (by decide))
                  rw [HZ.out 12 (by decide) (by decide) (by decide)] at c0
                  go_wp2_with fail
                  go_loopw [10] (fun t wr => t = .int .i64 0 ∧ Chg w wr []) (fun _ _ => 0)
                  case atStart => exact ⟨rfl, cc⟩
                  case round =>
                    clear cc c0
                    obtain ⟨rfl, cc⟩ := hrel
                    have c0 := ((HG.out.chg cc (by simp)).cell 14).trans (gvC_get G 14 (by decide))
                    rw [HZ.out 14 (by decide) (by decide) (by decide)] at c0
                    go_wp2_with fail
                    go_loopw [11] (fun t wr => t = .int .i64 0 ∧ Chg w wr []) (fun _ _ => 0)
                    case atStart => exact ⟨rfl, cc⟩
                    case round =>
                      clear cc c0
                      obtain ⟨rfl, cc⟩ := hrel
                      have c0 := ((HG.out.chg cc (by simp)).cell 16).trans (gvC_get G 16 (by decide))
                      rw [HZ.out 16 (by decide) (by decide) (by decide)] at c0
                      go_wp2_with fail
                      go_loopw [12] (fun t wr => t = .int .i64 0 ∧ Chg w wr []) (fun _ _ => 0)
                      case atStart => exact ⟨rfl, cc⟩
                      case round =>
                        clear cc c0
                        obtain ⟨rfl, cc⟩ := hrel
                        have c0 := ((HG.out.chg cc (by simp)).cell 18).trans (gvC_get G 18 (by decide))
                        rw [HZ.out 18 (by decide) (by decide) (by decide)] at c0
                        go_wp2_with fail
                        go_loopw [13] (fun t wr => t = .int .i64 0 ∧ Chg w wr []) (fun _ _ => 0)
                        case atStart => exact ⟨rfl, cc⟩
                        case round =>
                          clear cc c0
                          obtain ⟨rfl, cc⟩ := hrel
                          have c0 := ((HG.out.chg cc (by simp)).cell 20).trans (gvC_get G 20 (by decide))
                          rw [HZ.out 20 (by decide) (by decide) (by decide)] at c0
                          go_wp2_with fail
                          go_loopw [14] (fun t wr => t = .int .i64 0 ∧ Chg w wr []) (fun _ _ => 0)
                          case atStart => exact ⟨rfl, cc⟩
                          case round =>
                            clear cc c0
                            obtain ⟨rfl, cc⟩ := hrel
                            have c0 := ((HG.out.chg cc (by simp)).cell 22).trans (gvC_get G 22 (by decide))
                            rw [HZ.out 22 (by decide) (by decide) (by decide)] at c0
                            go_wp2_with fail
                            go_loopw [15] (fun t wr => t = .int .i64 0 ∧ Chg w wr []) (fun _ _ => 0)
                            case atStart => exact ⟨rfl, cc⟩
                            case round =>
                              clear cc c0
                              obtain ⟨rfl, cc⟩ := hrel
                              have c0 := ((HG.out.chg cc (by simp)).cell 24).trans (gvC_get G 24 (by decide))
                              rw [HZ.out 24 (by decide) (by decide) (by decide)] at c0
                              go_wp2_with fail
                              go_loopw [16] (fun t wr => t = .int .i64 0 ∧ Chg w wr []) (fun _ _ => 0)
                              case atStart => exact ⟨rfl, cc⟩
                              case round =>
                                clear cc c0
                                obtain ⟨rfl, cc⟩ := hrel
                                have c0 := ((HG.out.chg cc (by simp)).cell 26).trans (gvC_get G 26 (by decide))
                                rw [HZ.out 26 (by decide) (by decide) (by decide)] at c0
                                go_wp2_with fail
                                go_loopw [17] (fun t wr => t = .int .i64 0 ∧ Chg w wr []) (fun _ _ => 0)
                                case atStart => exact ⟨rfl, cc⟩
                                case round =>
                                  clear cc c0
                                  obtain ⟨rfl, cc⟩ := hrel
                                  have c0 := ((HG.out.chg cc (by simp)).cell 28).trans (gvC_get G 28 (by decide))
                                  rw [HZ.out 28 (by decide) (by decide) (by decide)] at c0
                                  go_wp2_with fail
                                  go_ret
                                  exact ⟨rfl, cc⟩
end Go.Proofs.Ytachilkhbfpahaa
