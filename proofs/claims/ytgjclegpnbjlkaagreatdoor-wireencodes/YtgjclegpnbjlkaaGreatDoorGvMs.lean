/- (*Given).Intact, where bytes and commitments were handed in; a Given that has both. -/
import Derived.Test.YtgjclegpnbjlkaaGreatDoorGvCm
import Derived.Test.YtgjclegpnbjlkaaGreatDoorMwP
import Derived.Test.YtgjclegpnbjlkaaGreatDoorMwK
set_option linter.unusedVariables false
set_option linter.unusedSimpArgs false
set_option linter.unnecessarySimpa false
namespace Go.Proofs.YtgjclegpnbjlkaaGreatDoor
open Go.RowKit

theorem cell_chgM {w w' : World} {g k : Nat} {v : Value} (h : w.cell? ⟨g, k, none⟩ = some v) (hc : Chg w w' []) : w'.cell? ⟨g, k, none⟩ = some v := by
  have hl : g < w.heap.size := by
    by_cases hl : g < w.heap.size
    · exact hl
    · simp [World.cell?, Array.getElem?_eq_none (Nat.le_of_not_lt hl)] at h
  rw [← h]
  simp only [World.cell?, hc.block g hl (by simp)]
/-- The lists at p as the walk reads them. -/
theorem Gv.readM {w : World} {gb base : Nat} {G : Nat → Value} {p : Nat} {TG TE T : TypeId} {s Kn : Nat} {N : Nat → Nat} {F : Nat → Nat → List Value} (h : Gv w gb base G p TG TE T s Kn N F) :
    ∃ pa ca pb cb, G p = .slice pa Kn ca ∧ G (p + 1) = .slice pb Kn cb ∧ ∀ j, j < Kn → ∃ lg mg x y, pa = some ⟨lg, 0, none⟩ ∧ pb = some ⟨mg, 0, none⟩ ∧ w.cell? ⟨lg, j, none⟩ = some x ∧ w.cell? ⟨mg, j, none⟩ = some y ∧ Rl w s x (N j) (F j) ∧ Rl w s y (N j) (F j) := by
  obtain ⟨vs, us, l1, l2, hd, hj⟩ := h.lists
  by_cases h0 : Kn = 0
  · subst h0
    have f1 : ∃ pa ca, G p = .slice pa 0 ca := by
      rcases l1.2 with ⟨e, _⟩ | ⟨g, cap, cur, e, _⟩
      · exact ⟨_, _, e⟩
      · exact ⟨_, _, e⟩
    have f2 : ∃ pa ca, G (p + 1) = .slice pa 0 ca := by
      rcases l2.2 with ⟨e, _⟩ | ⟨g, cap, cur, e, _⟩
      · exact ⟨_, _, e⟩
      · exact ⟨_, _, e⟩
    obtain ⟨pa, ca, e1⟩ := f1
    obtain ⟨pb, cb, e2⟩ := f2
    exact ⟨pa, ca, pb, cb, e1, e2, fun j hj => by omega⟩
  · obtain ⟨lg, ca, e1, _, _⟩ := l1.form (by omega)
    obtain ⟨mg, cb, e2, _, _⟩ := l2.form (by omega)
    refine ⟨_, ca, _, cb, e1, e2, fun j hjk => ?_⟩
    obtain ⟨o, x, q1, q2, q3, q4, q5⟩ := hj j hjk
    rw [e1] at l1
    rw [e2] at l2
    refine ⟨lg, mg, _, x, rfl, rfl, ownsRow_cell l1 q1, ownsRow_cell l2 q2, ⟨q5.2, Or.inr ⟨o, 0, N j, rfl, Nat.le_refl _, q3, q4.lt, fun i hi => ?_⟩⟩, q5.rl⟩
    rw [Nat.zero_add]
    exact q4.rangeRw q5.2 hi
theorem Gv.geM {w : World} {gb base : Nat} {G : Nat → Value} {p : Nat} {TG TE T : TypeId} {s Kn : Nat} {N : Nat → Nat} {F : Nat → Nat → List Value} (h : Gv w gb base G p TG TE T s Kn N F) (hb : base ≤ gb) : ∀ x, x ∈ gch gb G p → base ≤ x := by
  obtain ⟨vs, us, l1, l2, _⟩ := h.lists
  intro x hx
  rcases List.mem_cons.1 hx with e | hx
  · omega
  · rcases List.mem_append.1 hx with hx | hx
    · exact (l1.lt x (by unfold ob at hx; simpa using hx)).1
    · exact (l2.lt x (by unfold ob at hx; simpa using hx)).1
/-- The other pair of lists, where a call turned this one. -/
theorem Gv.besideM {w w' : World} {gb base : Nat} {G G' : Nat → Value} {p : Nat} {TG TE T : TypeId} {s K : Nat} {N : Nat → Nat} {F : Nat → Nat → List Value} {l : List Nat} (h : Gv w gb base G p TG TE T s K N F) (hb : Blk w' gb (gvC G') TG) (h1 : G' p = G p) (h2 : G' (p + 1) = G (p + 1)) (hc : Chg w w' l)
    (hE : ∀ o C, Blk w o C TE → ¬ o ∈ l) (hT : ∀ o C, Blk w o C T → ¬ o ∈ l) : Gv w' gb base G' p TG TE T s K N F := by
  refine ⟨hb, ?_⟩
  obtain ⟨vs, us, l1, l2, hd, hj⟩ := h.lists
  rw [h1, h2]
  refine ⟨vs, us, ownsRow_chg l1 hc (fun k hk => by obtain ⟨C, q⟩ := ownsRow_blk l1 hk; exact hE k C q), ownsRow_chg l2 hc (fun k hk => by obtain ⟨C, q⟩ := ownsRow_blk l2 hk; exact hE k C q), hd, fun j hjk => ?_⟩
  obtain ⟨o, x, q1, q2, q3, q4, q5⟩ := hj j hjk
  exact ⟨o, x, q1, q2, q3, q4.chg hc (hT o _ q4), q5.chg hc (fun k hk => by obtain ⟨C, q⟩ := ownR_blk q5 hk; exact hT k C q)⟩
/-- A Given that has nothing. -/
def gNm : Nat → Value := fun _ => .slice none 0 0
theorem Gv.noneM {w : World} {gb base : Nat} {p : Nat} {TG TE T : TypeId} {s : Nat} (h : Blk w gb (gvC gNm) TG) (N : Nat → Nat) (F : Nat → Nat → List Value) : Gv w gb base gNm p TG TE T s 0 N F :=
  ⟨h, [], [], World.ownsRow_nil _ _ _ _, World.ownsRow_nil _ _ _ _, fun x hx => by simp [ob, gNm, Value.ownBlock] at hx, fun j hj => by omega⟩
theorem zeroGm : (Tryz.prog.info? 52).bind (·.zero) = some (.agg (gvC gNm)) := by kernel_rfl
theorem eqCm_self (d : Int) (h b : Nat → Nat) : eqCm d h b d h b = true := (eqCm_iff _ _ _ _ _ _).2 ⟨rfl, fun _ _ => rfl, fun _ _ => rfl⟩
theorem SameC_self (v u : Value) (n : Nat) (d : Nat → Int) (h b : Nat → Nat → Nat) (w : World) (hv : Cl w v n d h b) (hu : Cl w u n d h b) :
    Calls Tryz.prog 52 #[v, u] w fun e w' => e = .returned (.bool true) ∧ Chg w w' [] :=
  (SameCommitments_w v n d h b u n d h b w hv hu).mono fun e w' q => ⟨by rw [q.1, (eqCl_iff n d h b n d h b).2 ⟨rfl, fun i _ => eqCm_self _ _ _⟩], q.2⟩
theorem SameB_self (v u : Value) (n : Nat) (f : Nat → Nat) (w : World) (hv : Sl w v n f) (hu : Sl w u n f) :
    Calls Tryz.prog 10 #[v, u] w fun e w' => e = .returned (.bool true) ∧ Chg w w' [] :=
  (SameBytes_w v n f u n f w hv.zb hu.zb).mono fun e w' q => ⟨by rw [q.1, eqB_self fun _ _ => rfl], q.2⟩
set_option maxHeartbeats 16000000 in
set_option maxRecDepth 100000 in
theorem Intact_m (gb base Ka Kb : Nat) (G : Nat → Value) (Na Nb : Nat → Nat) (Fa Fb : Nat → Nat → List Value) (w : World) (hA : Gv w gb base G 0 52 29 5 1 Ka Na Fa) (hB : Gv w gb base G 22 52 28 27 65 Kb Nb Fb)
    (hz : ∀ q, q < 30 → ¬ q = 0 → ¬ q = 1 → ¬ q = 22 → ¬ q = 23 → G q = .slice none 0 0)
    (hFa : ∀ j, j < Ka → ∃ f : Nat → Nat, Fa j = bR f ∧ ∀ i, i < Na j → f i < 256) (hFb : ∀ j, j < Kb → ∃ (d : Nat → Int) (h b : Nat → Nat → Nat), Fb j = cF d h b ∧ ∀ i, i < Nb j → ∀ x, x < 32 → h i x < 256 ∧ b i x < 256) (hKa : Ka ≤ 1000000) (hKb : Kb ≤ 1000000) :
    Calls Tryz.prog 12 #[.pointer (some ⟨gb, 0, none⟩)] w fun e w' => e = .returned (.bool true) ∧ Chg w w' [] := by
  have hg := hA.gb
  obtain ⟨pa, ca, pb, cb, ea1, ea2, hrda⟩ := hA.readM
  obtain ⟨qa, da, qb, db, eb1, eb2, hrdb⟩ := hB.readM
  have HZ : Hid (∀ q, q < 30 → ¬ q = 0 → ¬ q = 1 → ¬ q = 22 → ¬ q = 23 → G q = .slice none 0 0) := hz
  have HRDa : Hid (∀ j, j < Ka → ∃ lg mg x y, pa = some ⟨lg, 0, none⟩ ∧ pb = some ⟨mg, 0, none⟩ ∧ w.cell? ⟨lg, j, none⟩ = some x ∧ w.cell? ⟨mg, j, none⟩ = some y ∧ Rl w 1 x (Na j) (Fa j) ∧ Rl w 1 y (Na j) (Fa j)) := hrda
  have HRDb : Hid (∀ j, j < Kb → ∃ lg mg x y, qa = some ⟨lg, 0, none⟩ ∧ qb = some ⟨mg, 0, none⟩ ∧ w.cell? ⟨lg, j, none⟩ = some x ∧ w.cell? ⟨mg, j, none⟩ = some y ∧ Rl w 65 x (Nb j) (Fb j) ∧ Rl w 65 y (Nb j) (Fb j)) := hrdb
  have HFa : Hid (∀ j, j < Ka → ∃ f : Nat → Nat, Fa j = bR f ∧ ∀ i, i < Na j → f i < 256) := hFa
  have HFb : Hid (∀ j, j < Kb → ∃ (d : Nat → Int) (h b : Nat → Nat → Nat), Fb j = cF d h b ∧ ∀ i, i < Nb j → ∀ x, x < 32 → h i x < 256 ∧ b i x < 256) := hFb
  have HEa1 : Hid (G 0 = .slice pa Ka ca) := ea1
  have HEa2 : Hid (G 1 = .slice pb Ka cb) := ea2
  have HEb1 : Hid (G 22 = .slice qa Kb da) := eb1
  have HEb2 : Hid (G 23 = .slice qb Kb db) := eb2
  have HKa : Hid (Ka ≤ 1000000) := hKa
  have HKb : Hid (Kb ≤ 1000000) := hKb
  have HG : Hid (Blk w gb (gvC G) 52) := hg
  clear hz hrda hrdb hFa hFb ea1 ea2 eb1 eb2 hA hB hg hKa hKb
  go_enter Tryz.func12, Tryz.ntmps12
  have cc : Chg w w [] := Chg.refl w []
  go_wp2_with fail
  go_loopw [3] (fun t wr => ∃ i : Nat, i ≤ Ka ∧ t = .int .i64 (i : Int) ∧ Chg w wr []) (fun t _ => ((Ka : Int) - intOf t).toNat)
  case atStart => exact ⟨0, Nat.zero_le _, rfl, cc⟩
  case round =>
    clear cc
    obtain ⟨ia, hi, rfl, cc⟩ := hrel
    have c0 := ((HG.out.chg cc (by simp)).cell 0).trans (gvC_get G 0 (by decide))
    rw [HEa1.out] at c0
    by_cases h8 : ia < Ka
    · have hI : (ia : Int) < (Ka : Int) := by omega
      have hI0 : (0 : Int) ≤ (ia : Int) := by omega
      have e1 : IntKind.i64.wrap ((ia : Int) + 1) = (ia : Int) + 1 := by have := HKa.out; rw [IntKind.wrap_i64]; omega
      have HI1 : Hid (ia + 1 ≤ Ka) := h8
      have HM : Hid (((Ka : Int) - intOf (.int .i64 ((ia : Int) + 1))).toNat < ((Ka : Int) - intOf (.int .i64 (ia : Int))).toNat) := by show ((Ka : Int) - intOf (.int .i64 ((ia : Int) + 1))).toNat < ((Ka : Int) - intOf (.int .i64 (ia : Int))).toNat; simp [intOf]; omega
      obtain ⟨lg, mg, x, y, rfl, rfl, cl, cm, rx, ry⟩ := HRDa.out ia h8
      obtain ⟨f, hf1, hf2⟩ := HFa.out ia h8
      have XL : Hid (Sl wr x (Na ia) f) := Rl.sl (hf1 ▸ rx.chg cc (Off.nil _)) hf2
      have YL : Hid (Sl wr y (Na ia) f) := Rl.sl (hf1 ▸ ry.chg cc (Off.nil _)) hf2
      have CL : Hid (wr.cell? ⟨lg, ia, none⟩ = some x) := cell_chgM cl cc
      have CM : Hid (wr.cell? ⟨mg, ia, none⟩ = some y) := cell_chgM cm cc
      have HGR : Hid (Blk wr gb (gvC G) 52) := HG.out.chg cc (by simp)
      clear cl cm rx ry hf1 hf2 h8 hi HRDa HRDb HFa HFb
      go_wp2_with fail
      refine wp_region_held_drew (S := fun w' => Chg wr w' []) (by kernel_rfl) ((Chg.refl wr _).drew) (fun hHeld => ?_)
      refine take_val (v := ?_) 0 (some 27) rfl (by kernel_rfl) (by kernel_rfl) (by kernel_rfl) (fun _ _ _ h => h) rfl rfl (fun w hSw => ?_) hHeld ?_
      rotate_left
      · (go_simp; try with_reducible rfl)
      try simp only [Act.put, List.setIfInBounds_toArray, List.set_cons_zero, List.set_cons_succ]
      refine take_val (v := ?_) 1 (some 28) rfl (by kernel_rfl) (by kernel_rfl) (by kernel_rfl) (fun _ _ _ h => h) rfl rfl (fun w hSw => ?_) hHeld ?_
      rotate_left
      · (go_simp; try with_reducible rfl)
      try simp only [Act.put, List.setIfInBounds_toArray, List.set_cons_zero, List.set_cons_succ]
      refine take_val (v := ?_) 2 (some 29) rfl (by kernel_rfl) (by kernel_rfl) (by kernel_rfl) (fun _ _ _ h => h) rfl rfl (fun w hSw => ?_) hHeld ?_
      rotate_left
      · (go_simp; try with_reducible rfl)
      try simp only [Act.put, List.setIfInBounds_toArray, List.set_cons_zero, List.set_cons_succ]
      refine take_val (v := (Value.slice (some ⟨lg, 0, none⟩) Ka ca)) 3 (some 30) rfl (by kernel_rfl) (by kernel_rfl) (by kernel_rfl) (fun _ _ _ h => h) rfl rfl (fun w hSw => ?_) hHeld ?_
      · have cx := (HGR.out.chg hSw (by simp)).cell 0
        rw [gvC_get G 0 (by decide), HEa1.out] at cx
        (go_simp; try with_reducible rfl)
      try simp only [Act.put, List.setIfInBounds_toArray, List.set_cons_zero, List.set_cons_succ]
      refine take_val (v := ?_) 4 (some 31) rfl (by kernel_rfl) (by kernel_rfl) (by kernel_rfl) (fun _ _ _ h => h) rfl rfl (fun w hSw => ?_) hHeld ?_
      rotate_left
      · (go_simp; try with_reducible rfl)
      try simp only [Act.put, List.setIfInBounds_toArray, List.set_cons_zero, List.set_cons_succ]
      refine take_val (v := ?_) 5 (some 32) rfl (by kernel_rfl) (by kernel_rfl) (by kernel_rfl) (fun _ _ _ h => h) rfl rfl (fun w hSw => ?_) hHeld ?_
      rotate_left
      · (go_simp; try with_reducible rfl)
      try simp only [Act.put, List.setIfInBounds_toArray, List.set_cons_zero, List.set_cons_succ]
      refine take_val (v := (x)) 6 (some 33) rfl (by kernel_rfl) (by kernel_rfl) (by kernel_rfl) (fun _ _ _ h => h) rfl rfl (fun w hSw => ?_) hHeld ?_
      · have cx := cell_chgM CL.out hSw
        (go_simp; try with_reducible rfl)
      try simp only [Act.put, List.setIfInBounds_toArray, List.set_cons_zero, List.set_cons_succ]
      refine take_val (v := ?_) 7 (some 34) rfl (by kernel_rfl) (by kernel_rfl) (by kernel_rfl) (fun _ _ _ h => h) rfl rfl (fun w hSw => ?_) hHeld ?_
      rotate_left
      · (go_simp; try with_reducible rfl)
      try simp only [Act.put, List.setIfInBounds_toArray, List.set_cons_zero, List.set_cons_succ]
      refine take_val (v := ?_) 8 (some 35) rfl (by kernel_rfl) (by kernel_rfl) (by kernel_rfl) (fun _ _ _ h => h) rfl rfl (fun w hSw => ?_) hHeld ?_
      rotate_left
      · (go_simp; try with_reducible rfl)
      try simp only [Act.put, List.setIfInBounds_toArray, List.set_cons_zero, List.set_cons_succ]
      refine take_val (v := ?_) 9 (some 36) rfl (by kernel_rfl) (by kernel_rfl) (by kernel_rfl) (fun _ _ _ h => h) rfl rfl (fun w hSw => ?_) hHeld ?_
      rotate_left
      · (go_simp; try with_reducible rfl)
      try simp only [Act.put, List.setIfInBounds_toArray, List.set_cons_zero, List.set_cons_succ]
      refine take_val (v := (Value.slice (some ⟨mg, 0, none⟩) Ka cb)) 10 (some 37) rfl (by kernel_rfl) (by kernel_rfl) (by kernel_rfl) (fun _ _ _ h => h) rfl rfl (fun w hSw => ?_) hHeld ?_
      · have cx := (HGR.out.chg hSw (by simp)).cell 1
        rw [gvC_get G 1 (by decide), HEa2.out] at cx
        (go_simp; try with_reducible rfl)
      try simp only [Act.put, List.setIfInBounds_toArray, List.set_cons_zero, List.set_cons_succ]
      refine take_val (v := ?_) 11 (some 38) rfl (by kernel_rfl) (by kernel_rfl) (by kernel_rfl) (fun _ _ _ h => h) rfl rfl (fun w hSw => ?_) hHeld ?_
      rotate_left
      · (go_simp; try with_reducible rfl)
      try simp only [Act.put, List.setIfInBounds_toArray, List.set_cons_zero, List.set_cons_succ]
      refine take_val (v := ?_) 12 (some 39) rfl (by kernel_rfl) (by kernel_rfl) (by kernel_rfl) (fun _ _ _ h => h) rfl rfl (fun w hSw => ?_) hHeld ?_
      rotate_left
      · (go_simp; try with_reducible rfl)
      try simp only [Act.put, List.setIfInBounds_toArray, List.set_cons_zero, List.set_cons_succ]
      refine take_val (v := (y)) 13 (some 40) rfl (by kernel_rfl) (by kernel_rfl) (by kernel_rfl) (fun _ _ _ h => h) rfl rfl (fun w hSw => ?_) hHeld ?_
      · have cx := cell_chgM CM.out hSw
        (go_simp; try with_reducible rfl)
      try simp only [Act.put, List.setIfInBounds_toArray, List.set_cons_zero, List.set_cons_succ]
      refine wpAnyH_ready (rs := [14]) (by kernel_rfl) (by simp) ?_
      refine AllReadyH.cons (o := _) rfl (fun K hK => ?_) ?_
      ·
        go_simp
        refine (SameB_self x y (Na ia) f _ (XL.out.chg hHeld (Off.nil _)) (YL.out.chg hHeld (Off.nil _))).mono ?_
        rintro e v7 ⟨rfl, k7⟩
        go_wp2_with fail
        refine hK.out _ _ (hHeld.trans1 k7) (fun hHeld => ?_)
        clear hK K
        try simp only [Act.put, List.setIfInBounds_toArray, List.set_cons_zero, List.set_cons_succ]
        refine take_val (v := ?_) 15 (some 42) rfl (by kernel_rfl) (by kernel_rfl) (by kernel_rfl) (fun _ _ _ h => h) rfl rfl (fun w hSw => ?_) hHeld ?_
        rotate_left
        · (go_simp; try with_reducible rfl)
        try simp only [Act.put, List.setIfInBounds_toArray, List.set_cons_zero, List.set_cons_succ]
        refine wpAnyH_done (by kernel_rfl) ?_ _
        go_wp2_with fail
        exact ⟨⟨ia + 1, HI1.out, by go_num, cc.trans1 hHeld⟩, HM.out⟩
      exact AllReadyH.nil
    · have h9 : ia = Ka := by omega
      subst h9
      have hIa : ¬ (ia : Int) < (ia : Int) := by omega
      go_wp2_with fail
      go_loopw [4] (fun t wr => t = .int .i64 0 ∧ Chg w wr []) (fun _ _ => 0)
      case atStart => exact ⟨rfl, cc⟩
      case round =>
        clear cc c0
        obtain ⟨rfl, cc⟩ := hrel
        have c0 := ((HG.out.chg cc (by simp)).cell 2).trans (gvC_get G 2 (by decide))
        rw [HZ.out 2 (by decide) (by decide) (by decide) (by decide) (by decide)] at c0
        go_wp2_with fail
        go_loopw [5] (fun t wr => t = .int .i64 0 ∧ Chg w wr []) (fun _ _ => 0)
        case atStart => exact ⟨rfl, cc⟩
        case round =>
          clear cc c0
          obtain ⟨rfl, cc⟩ := hrel
          have c0 := ((HG.out.chg cc (by simp)).cell 4).trans (gvC_get G 4 (by decide))
          rw [HZ.out 4 (by decide) (by decide) (by decide) (by decide) (by decide)] at c0
          go_wp2_with fail
          go_loopw [6] (fun t wr => t = .int .i64 0 ∧ Chg w wr []) (fun _ _ => 0)
          case atStart => exact ⟨rfl, cc⟩
          case round =>
            clear cc c0
            obtain ⟨rfl, cc⟩ := hrel
            have c0 := ((HG.out.chg cc (by simp)).cell 6).trans (gvC_get G 6 (by decide))
            rw [HZ.out 6 (by decide) (by decide) (by decide) (by decide) (by decide)] at c0
            go_wp2_with fail
            go_loopw [7] (fun t wr => t = .int .i64 0 ∧ Chg w wr []) (fun _ _ => 0)
            case atStart => exact ⟨rfl, cc⟩
            case round =>
              clear cc c0
              obtain ⟨rfl, cc⟩ := hrel
              have c0 := ((HG.out.chg cc (by simp)).cell 8).trans (gvC_get G 8 (by decide))
              rw [HZ.out 8 (by decide) (by decide) (by decide) (by decide) (by decide)] at c0
              go_wp2_with fail
              go_loopw [8] (fun t wr => t = .int .i64 0 ∧ Chg w wr []) (fun _ _ => 0)
              case atStart => exact ⟨rfl, cc⟩
              case round =>
                clear cc c0
                obtain ⟨rfl, cc⟩ := hrel
                have c0 := ((HG.out.chg cc (by simp)).cell 10).trans (gvC_get G 10 (by decide))
                rw [HZ.out 10 (by decide) (by decide) (by decide) (by decide) (by decide)] at c0
                go_wp2_with fail
                go_loopw [9] (fun t wr => t = .int .i64 0 ∧ Chg w wr []) (fun _ _ => 0)
                case atStart => exact ⟨rfl, cc⟩
                case round =>
                  clear cc c0
                  obtain ⟨rfl, cc⟩ := hrel
                  have c0 := ((HG.out.chg cc (by simp)).cell 12).trans (gvC_get G 12 (by decide))
                  rw [HZ.out 12 (by decide) (by decide) (by decide) (by decide) (by decide)] at c0
                  go_wp2_with fail
                  go_loopw [10] (fun t wr => t = .int .i64 0 ∧ Chg w wr []) (fun _ _ => 0)
                  case atStart => exact ⟨rfl, cc⟩
                  case round =>
                    clear cc c0
                    obtain ⟨rfl, cc⟩ := hrel
                    have c0 := ((HG.out.chg cc (by simp)).cell 14).trans (gvC_get G 14 (by decide))
                    rw [HZ.out 14 (by decide) (by decide) (by decide) (by decide) (by decide)] at c0
                    go_wp2_with fail
                    go_loopw [11] (fun t wr => t = .int .i64 0 ∧ Chg w wr []) (fun _ _ => 0)
                    case atStart => exact ⟨rfl, cc⟩
                    case round =>
                      clear cc c0
                      obtain ⟨rfl, cc⟩ := hrel
                      have c0 := ((HG.out.chg cc (by simp)).cell 16).trans (gvC_get G 16 (by decide))
                      rw [HZ.out 16 (by decide) (by decide) (by decide) (by decide) (by decide)] at c0
                      go_wp2_with fail
                      go_loopw [12] (fun t wr => t = .int .i64 0 ∧ Chg w wr []) (fun _ _ => 0)
                      case atStart => exact ⟨rfl, cc⟩
                      case round =>
                        clear cc c0
                        obtain ⟨rfl, cc⟩ := hrel
                        have c0 := ((HG.out.chg cc (by simp)).cell 18).trans (gvC_get G 18 (by decide))
                        rw [HZ.out 18 (by decide) (by decide) (by decide) (by decide) (by decide)] at c0
                        go_wp2_with fail
                        go_loopw [13] (fun t wr => t = .int .i64 0 ∧ Chg w wr []) (fun _ _ => 0)
                        case atStart => exact ⟨rfl, cc⟩
                        case round =>
                          clear cc c0
                          obtain ⟨rfl, cc⟩ := hrel
                          have c0 := ((HG.out.chg cc (by simp)).cell 20).trans (gvC_get G 20 (by decide))
                          rw [HZ.out 20 (by decide) (by decide) (by decide) (by decide) (by decide)] at c0
                          go_wp2_with fail
                          go_loopw [14] (fun t wr => ∃ i : Nat, i ≤ Kb ∧ t = .int .i64 (i : Int) ∧ Chg w wr []) (fun t _ => ((Kb : Int) - intOf t).toNat)
                          case atStart => exact ⟨0, Nat.zero_le _, rfl, cc⟩
                          case round =>
                            clear cc c0
                            obtain ⟨ib, hi, rfl, cc⟩ := hrel
                            have c0 := ((HG.out.chg cc (by simp)).cell 22).trans (gvC_get G 22 (by decide))
                            rw [HEb1.out] at c0
                            by_cases h8 : ib < Kb
                            · have hI : (ib : Int) < (Kb : Int) := by omega
                              have hI0 : (0 : Int) ≤ (ib : Int) := by omega
                              have e1 : IntKind.i64.wrap ((ib : Int) + 1) = (ib : Int) + 1 := by have := HKb.out; rw [IntKind.wrap_i64]; omega
                              have HI1 : Hid (ib + 1 ≤ Kb) := h8
                              have HM : Hid (((Kb : Int) - intOf (.int .i64 ((ib : Int) + 1))).toNat < ((Kb : Int) - intOf (.int .i64 (ib : Int))).toNat) := by show ((Kb : Int) - intOf (.int .i64 ((ib : Int) + 1))).toNat < ((Kb : Int) - intOf (.int .i64 (ib : Int))).toNat; simp [intOf]; omega
                              obtain ⟨lg, mg, x, y, rfl, rfl, cl, cm, rx, ry⟩ := HRDb.out ib h8
                              obtain ⟨dd, hh, bb, hf1, hf2⟩ := HFb.out ib h8
                              have XL : Hid (Cl wr x (Nb ib) dd hh bb) := ⟨hf1 ▸ rx.chg cc (Off.nil _), hf2⟩
                              have YL : Hid (Cl wr y (Nb ib) dd hh bb) := ⟨hf1 ▸ ry.chg cc (Off.nil _), hf2⟩
                              have CL : Hid (wr.cell? ⟨lg, ib, none⟩ = some x) := cell_chgM cl cc
                              have CM : Hid (wr.cell? ⟨mg, ib, none⟩ = some y) := cell_chgM cm cc
                              have HGR : Hid (Blk wr gb (gvC G) 52) := HG.out.chg cc (by simp)
                              clear cl cm rx ry hf1 hf2 h8 hi HRDa HRDb HFa HFb
                              go_wp2_with fail
                              refine wp_region_held_drew (S := fun w' => Chg wr w' []) (by kernel_rfl) ((Chg.refl wr _).drew) (fun hHeld => ?_)
                              refine take_val (v := ?_) 0 (some 302) rfl (by kernel_rfl) (by kernel_rfl) (by kernel_rfl) (fun _ _ _ h => h) rfl rfl (fun w hSw => ?_) hHeld ?_
                              rotate_left
                              · (go_simp; try with_reducible rfl)
                              try simp only [Act.put, List.setIfInBounds_toArray, List.set_cons_zero, List.set_cons_succ]
                              refine take_val (v := ?_) 1 (some 303) rfl (by kernel_rfl) (by kernel_rfl) (by kernel_rfl) (fun _ _ _ h => h) rfl rfl (fun w hSw => ?_) hHeld ?_
                              rotate_left
                              · (go_simp; try with_reducible rfl)
                              try simp only [Act.put, List.setIfInBounds_toArray, List.set_cons_zero, List.set_cons_succ]
                              refine take_val (v := ?_) 2 (some 304) rfl (by kernel_rfl) (by kernel_rfl) (by kernel_rfl) (fun _ _ _ h => h) rfl rfl (fun w hSw => ?_) hHeld ?_
                              rotate_left
                              · (go_simp; try with_reducible rfl)
                              try simp only [Act.put, List.setIfInBounds_toArray, List.set_cons_zero, List.set_cons_succ]
                              refine take_val (v := (Value.slice (some ⟨lg, 0, none⟩) Kb da)) 3 (some 305) rfl (by kernel_rfl) (by kernel_rfl) (by kernel_rfl) (fun _ _ _ h => h) rfl rfl (fun w hSw => ?_) hHeld ?_
                              · have cx := (HGR.out.chg hSw (by simp)).cell 22
                                rw [gvC_get G 22 (by decide), HEb1.out] at cx
                                (go_simp; try with_reducible rfl)
                              try simp only [Act.put, List.setIfInBounds_toArray, List.set_cons_zero, List.set_cons_succ]
                              refine take_val (v := ?_) 4 (some 306) rfl (by kernel_rfl) (by kernel_rfl) (by kernel_rfl) (fun _ _ _ h => h) rfl rfl (fun w hSw => ?_) hHeld ?_
                              rotate_left
                              · (go_simp; try with_reducible rfl)
                              try simp only [Act.put, List.setIfInBounds_toArray, List.set_cons_zero, List.set_cons_succ]
                              refine take_val (v := ?_) 5 (some 307) rfl (by kernel_rfl) (by kernel_rfl) (by kernel_rfl) (fun _ _ _ h => h) rfl rfl (fun w hSw => ?_) hHeld ?_
                              rotate_left
                              · (go_simp; try with_reducible rfl)
                              try simp only [Act.put, List.setIfInBounds_toArray, List.set_cons_zero, List.set_cons_succ]
                              refine take_val (v := (x)) 6 (some 308) rfl (by kernel_rfl) (by kernel_rfl) (by kernel_rfl) (fun _ _ _ h => h) rfl rfl (fun w hSw => ?_) hHeld ?_
                              · have cx := cell_chgM CL.out hSw
                                (go_simp; try with_reducible rfl)
                              try simp only [Act.put, List.setIfInBounds_toArray, List.set_cons_zero, List.set_cons_succ]
                              refine take_val (v := ?_) 7 (some 309) rfl (by kernel_rfl) (by kernel_rfl) (by kernel_rfl) (fun _ _ _ h => h) rfl rfl (fun w hSw => ?_) hHeld ?_
                              rotate_left
                              · (go_simp; try with_reducible rfl)
                              try simp only [Act.put, List.setIfInBounds_toArray, List.set_cons_zero, List.set_cons_succ]
                              refine take_val (v := ?_) 8 (some 310) rfl (by kernel_rfl) (by kernel_rfl) (by kernel_rfl) (fun _ _ _ h => h) rfl rfl (fun w hSw => ?_) hHeld ?_
                              rotate_left
                              · (go_simp; try with_reducible rfl)
                              try simp only [Act.put, List.setIfInBounds_toArray, List.set_cons_zero, List.set_cons_succ]
                              refine take_val (v := ?_) 9 (some 311) rfl (by kernel_rfl) (by kernel_rfl) (by kernel_rfl) (fun _ _ _ h => h) rfl rfl (fun w hSw => ?_) hHeld ?_
                              rotate_left
                              · (go_simp; try with_reducible rfl)
                              try simp only [Act.put, List.setIfInBounds_toArray, List.set_cons_zero, List.set_cons_succ]
                              refine take_val (v := (Value.slice (some ⟨mg, 0, none⟩) Kb db)) 10 (some 312) rfl (by kernel_rfl) (by kernel_rfl) (by kernel_rfl) (fun _ _ _ h => h) rfl rfl (fun w hSw => ?_) hHeld ?_
                              · have cx := (HGR.out.chg hSw (by simp)).cell 23
                                rw [gvC_get G 23 (by decide), HEb2.out] at cx
                                (go_simp; try with_reducible rfl)
                              try simp only [Act.put, List.setIfInBounds_toArray, List.set_cons_zero, List.set_cons_succ]
                              refine take_val (v := ?_) 11 (some 313) rfl (by kernel_rfl) (by kernel_rfl) (by kernel_rfl) (fun _ _ _ h => h) rfl rfl (fun w hSw => ?_) hHeld ?_
                              rotate_left
                              · (go_simp; try with_reducible rfl)
                              try simp only [Act.put, List.setIfInBounds_toArray, List.set_cons_zero, List.set_cons_succ]
                              refine take_val (v := ?_) 12 (some 314) rfl (by kernel_rfl) (by kernel_rfl) (by kernel_rfl) (fun _ _ _ h => h) rfl rfl (fun w hSw => ?_) hHeld ?_
                              rotate_left
                              · (go_simp; try with_reducible rfl)
                              try simp only [Act.put, List.setIfInBounds_toArray, List.set_cons_zero, List.set_cons_succ]
                              refine take_val (v := (y)) 13 (some 315) rfl (by kernel_rfl) (by kernel_rfl) (by kernel_rfl) (fun _ _ _ h => h) rfl rfl (fun w hSw => ?_) hHeld ?_
                              · have cx := cell_chgM CM.out hSw
                                (go_simp; try with_reducible rfl)
                              try simp only [Act.put, List.setIfInBounds_toArray, List.set_cons_zero, List.set_cons_succ]
                              refine wpAnyH_ready (rs := [14]) (by kernel_rfl) (by simp) ?_
                              refine AllReadyH.cons (o := _) rfl (fun K hK => ?_) ?_
                              ·
                                go_simp
                                refine (SameC_self x y (Nb ib) dd hh bb _ (XL.out.chg hHeld) (YL.out.chg hHeld)).mono ?_
                                rintro e v7 ⟨rfl, k7⟩
                                go_wp2_with fail
                                refine hK.out _ _ (hHeld.trans1 k7) (fun hHeld => ?_)
                                clear hK K
                                try simp only [Act.put, List.setIfInBounds_toArray, List.set_cons_zero, List.set_cons_succ]
                                refine take_val (v := ?_) 15 (some 317) rfl (by kernel_rfl) (by kernel_rfl) (by kernel_rfl) (fun _ _ _ h => h) rfl rfl (fun w hSw => ?_) hHeld ?_
                                rotate_left
                                · (go_simp; try with_reducible rfl)
                                try simp only [Act.put, List.setIfInBounds_toArray, List.set_cons_zero, List.set_cons_succ]
                                refine wpAnyH_done (by kernel_rfl) ?_ _
                                go_wp2_with fail
                                exact ⟨⟨ib + 1, HI1.out, by go_num, cc.trans1 hHeld⟩, HM.out⟩
                              exact AllReadyH.nil
                            · have h9 : ib = Kb := by omega
                              subst h9
                              have hIb : ¬ (ib : Int) < (ib : Int) := by omega
                              go_wp2_with fail
                              go_loopw [15] (fun t wr => t = .int .i64 0 ∧ Chg w wr []) (fun _ _ => 0)
                              case atStart => exact ⟨rfl, cc⟩
                              case round =>
                                clear cc c0
                                obtain ⟨rfl, cc⟩ := hrel
                                have c0 := ((HG.out.chg cc (by simp)).cell 24).trans (gvC_get G 24 (by decide))
                                rw [HZ.out 24 (by decide) (by decide) (by decide) (by decide) (by decide)] at c0
                                go_wp2_with fail
                                go_loopw [16] (fun t wr => t = .int .i64 0 ∧ Chg w wr []) (fun _ _ => 0)
                                case atStart => exact ⟨rfl, cc⟩
                                case round =>
                                  clear cc c0
                                  obtain ⟨rfl, cc⟩ := hrel
                                  have c0 := ((HG.out.chg cc (by simp)).cell 26).trans (gvC_get G 26 (by decide))
                                  rw [HZ.out 26 (by decide) (by decide) (by decide) (by decide) (by decide)] at c0
                                  go_wp2_with fail
                                  go_loopw [17] (fun t wr => t = .int .i64 0 ∧ Chg w wr []) (fun _ _ => 0)
                                  case atStart => exact ⟨rfl, cc⟩
                                  case round =>
                                    clear cc c0
                                    obtain ⟨rfl, cc⟩ := hrel
                                    have c0 := ((HG.out.chg cc (by simp)).cell 28).trans (gvC_get G 28 (by decide))
                                    rw [HZ.out 28 (by decide) (by decide) (by decide) (by decide) (by decide)] at c0
                                    go_wp2_with fail
                                    go_ret
                                    exact ⟨rfl, cc⟩
/-- A Given that has one list of commitments and one of bytes. -/
def GM (w : World) (gb base : Nat) : Prop := ∃ G Na Nb Fa Fb, Gv w gb base G 0 52 29 5 1 1 Na Fa ∧ Gv w gb base G 22 52 28 27 65 1 Nb Fb ∧ (∀ q, q < 30 → ¬ q = 0 → ¬ q = 1 → ¬ q = 22 → ¬ q = 23 → G q = .slice none 0 0) ∧
  (∀ j, j < 1 → ∃ f : Nat → Nat, Fa j = bR f ∧ ∀ i, i < Na j → f i < 256) ∧ (∀ j, j < 1 → ∃ (d : Nat → Int) (h b : Nat → Nat → Nat), Fb j = cF d h b ∧ ∀ i, i < Nb j → ∀ x, x < 32 → h i x < 256 ∧ b i x < 256)
theorem GM.chg {w w' : World} {gb base : Nat} (h : GM w gb base) (c : Chg w w' []) : GM w' gb base := by
  obtain ⟨G, Na, Nb, Fa, Fb, a, b, z, x, y⟩ := h
  exact ⟨G, Na, Nb, Fa, Fb, a.chg c, b.chg c, z, x, y⟩
theorem GM.intact {w : World} {gb base : Nat} (h : GM w gb base) : Calls Tryz.prog 12 #[.pointer (some ⟨gb, 0, none⟩)] w fun e w' => e = .returned (.bool true) ∧ Chg w w' [] := by
  obtain ⟨G, Na, Nb, Fa, Fb, a, b, z, x, y⟩ := h
  exact Intact_m gb base 1 1 G Na Nb Fa Fb w a b z x y (by decide) (by decide)
theorem copy_cl {w : World} {o n m : Nat} {d : Nat → Int} {h b : Nat → Nat → Nat} (hb : Blk w o (rL 65 m (gvR mkCr (cF d h b) n)).toArray 27) (hn : n ≤ m) (hm : m ≤ 9223372036854775807) (hy : ∀ j, j < n → ∀ i, i < 32 → h j i < 256 ∧ b j i < 256) : Cl w (.slice (some ⟨o, 0, none⟩) n m) n d h b := by
  refine ⟨⟨cF_ok n d h b, Or.inr ⟨o, 0, m, rfl, hn, hm, hb.lt, fun i hi => ?_⟩⟩, hy⟩
  have q := hb.rangeRw (gvR_ok mkC_ok (cF_ok n d h b) n (Nat.le_refl _)) (show i < m by omega)
  have e : gvR mkCr (cF d h b) n i = cF d h b i := by unfold gvR; rw [if_pos hi]
  rw [e] at q
  rw [Nat.zero_add]
  exact q
theorem gv_cmE (n : Nat) (d : Nat → Int) (h b : Nat → Nat → Nat) (hy : ∀ j, j < n → ∀ i, i < 32 → h j i < 256 ∧ b j i < 256) : ∃ (x : Nat → Int) (y z : Nat → Nat → Nat), gvR mkCr (cF d h b) n = cF x y z ∧ ∀ j i, i < 32 → y j i < 256 ∧ z j i < 256 := by
  refine ⟨fun i => if i < n then d i else mkC i, fun i => if i < n then h i else zN, fun i => if i < n then b i else zN, ?_, fun j i hi => ?_⟩
  · funext i
    unfold gvR mkCr cF
    by_cases h : i < n
    · rw [if_pos h]; simp only [if_pos h]
    · rw [if_neg h]; simp only [if_neg h]
  · by_cases hj : j < n
    · simp only [if_pos hj]; exact hy j hj i hi
    · simp only [if_neg hj]; exact ⟨by show (0 : Nat) < 256; omega, by show (0 : Nat) < 256; omega⟩
theorem copy_bl {w : World} {o n m : Nat} {f : Nat → Nat} (hb : Blk w o (rL 1 m (bR (gvf f n))).toArray 5) (hn : n ≤ m) (hm : m ≤ 9223372036854775807) (hf : ∀ i, i < n → f i < 256) : Sl w (.slice (some ⟨o, 0, none⟩) n m) n f := by
  refine Or.inr ⟨o, 0, m, rfl, hn, hm, hb.lt, hf, fun j hj => ?_⟩
  rw [Nat.zero_add, hb.cell, ← yC_bR, yC_get _ _ _ (by omega)]
  unfold gvf
  rw [if_pos hj]
end Go.Proofs.YtgjclegpnbjlkaaGreatDoor
