/- (*Given).Intact, where shares were handed in; a Given with shares. -/
import Derived.Test.YtemjpibmefggnaaGreatGvShs
import Derived.Test.YtemjpibmefggnaaGreatShR2
set_option linter.unusedVariables false
set_option linter.unusedSimpArgs false
set_option linter.unnecessarySimpa false
namespace Go.Proofs.YtemjpibmefggnaaGreat
open Go.RowKit N

theorem cell_chgH {w w' : World} {g k : Nat} {v : Value} (h : w.cell? ⟨g, k, none⟩ = some v) (hc : Chg w w' []) : w'.cell? ⟨g, k, none⟩ = some v := by
  have hl : g < w.heap.size := by
    by_cases hl : g < w.heap.size
    · exact hl
    · simp [World.cell?, Array.getElem?_eq_none (Nat.le_of_not_lt hl)] at h
  rw [← h]
  simp only [World.cell?, hc.block g hl (by simp)]
/-- The lists at p as the walk reads them. -/
theorem Gv.readH {w : World} {gb base : Nat} {G : Nat → Value} {p : Nat} {TG TE T : TypeId} {s Kn : Nat} {N : Nat → Nat} {F : Nat → Nat → List Value} (h : Gv w gb base G p TG TE T s Kn N F) :
    ∃ pa ca pb cb, G p = .slice pa Kn ca ∧ G (p + 1) = .slice pb Kn cb ∧ ∀ j, j < Kn → ∃ lg mg x y, pa = some ⟨lg, 0, none⟩ ∧ pb = some ⟨mg, 0, none⟩ ∧ w.cell? ⟨lg, j, none⟩ = some x ∧ w.cell? ⟨mg, j, none⟩ = some y ∧ Rl w s x (N j) (F j) ∧ Rl w s y (N j) (F j) := by
  obtain ⟨vs, us, l1, l2, hd, hj⟩ := h.lists
  by_cases h0 : Kn = 0
  · subst h0
    have f1 : ∃ pa ca, G p = .slice pa 0 ca := by
      rcases l1.2 with ⟨e, _⟩ | ⟨g, cap, cur, e, _⟩
      · exact ⟨_, _, e⟩
      · exact ⟨_, _, e⟩
    have f2 : ∃ pa ca, G (p + 1) = .slice pa 0 ca := by
      rcases l2.2 with ⟨e, _⟩ | ⟨g, cap, cur, e, _⟩
      · exact ⟨_, _, e⟩
      · exact ⟨_, _, e⟩
    obtain ⟨pa, ca, e1⟩ := f1
    obtain ⟨pb, cb, e2⟩ := f2
    exact ⟨pa, ca, pb, cb, e1, e2, fun j hj => by omega⟩
  · obtain ⟨lg, ca, e1, _, _⟩ := l1.form (by omega)
    obtain ⟨mg, cb, e2, _, _⟩ := l2.form (by omega)
    refine ⟨_, ca, _, cb, e1, e2, fun j hjk => ?_⟩
    obtain ⟨o, x, q1, q2, q3, q4, q5⟩ := hj j hjk
    rw [e1] at l1
    rw [e2] at l2
    refine ⟨lg, mg, _, x, rfl, rfl, ownsRow_cell l1 q1, ownsRow_cell l2 q2, ⟨q5.2, Or.inr ⟨o, 0, N j, rfl, Nat.le_refl _, q3, q4.lt, fun i hi => ?_⟩⟩, q5.rl⟩
    rw [Nat.zero_add]
    exact q4.rangeRw q5.2 hi
def gNh : Nat → Value := fun _ => .slice none 0 0
theorem Gv.noneH {w : World} {gb base : Nat} {p : Nat} {TG TE T : TypeId} {s : Nat} (h : Blk w gb (gvC gNh) TG) (N : Nat → Nat) (F : Nat → Nat → List Value) : Gv w gb base gNh p TG TE T s 0 N F :=
  ⟨h, [], [], World.ownsRow_nil _ _ _ _, World.ownsRow_nil _ _ _ _, fun x hx => by simp [ob, gNh, Value.ownBlock] at hx, fun j hj => by omega⟩
theorem Gv.geH {w : World} {gb base : Nat} {G : Nat → Value} {p : Nat} {TG TE T : TypeId} {s Kn : Nat} {N : Nat → Nat} {F : Nat → Nat → List Value} (h : Gv w gb base G p TG TE T s Kn N F) (hb : base ≤ gb) : ∀ x, x ∈ gch gb G p → base ≤ x := by
  obtain ⟨vs, us, l1, l2, _⟩ := h.lists
  intro x hx
  rcases List.mem_cons.1 hx with e | hx
  · omega
  · rcases List.mem_append.1 hx with hx | hx
    · exact (l1.lt x (by unfold ob at hx; simpa using hx)).1
    · exact (l2.lt x (by unfold ob at hx; simpa using hx)).1
/-- The other pair of lists, where a call turned this one. -/
theorem Gv.besideH {w w' : World} {gb base : Nat} {G G' : Nat → Value} {p : Nat} {TG TE T : TypeId} {s K : Nat} {N : Nat → Nat} {F : Nat → Nat → List Value} {l : List Nat} (h : Gv w gb base G p TG TE T s K N F) (hb : Blk w' gb (gvC G') TG) (h1 : G' p = G p) (h2 : G' (p + 1) = G (p + 1)) (hc : Chg w w' l)
    (hE : ∀ o C, Blk w o C TE → ¬ o ∈ l) (hT : ∀ o C, Blk w o C T → ¬ o ∈ l) : Gv w' gb base G' p TG TE T s K N F := by
  refine ⟨hb, ?_⟩
  obtain ⟨vs, us, l1, l2, hd, hj⟩ := h.lists
  rw [h1, h2]
  refine ⟨vs, us, ownsRow_chg l1 hc (fun k hk => by obtain ⟨C, q⟩ := ownsRow_blk l1 hk; exact hE k C q), ownsRow_chg l2 hc (fun k hk => by obtain ⟨C, q⟩ := ownsRow_blk l2 hk; exact hE k C q), hd, fun j hjk => ?_⟩
  obtain ⟨o, x, q1, q2, q3, q4, q5⟩ := hj j hjk
  exact ⟨o, x, q1, q2, q3, q4.chg hc (hT o _ q4), q5.chg hc (fun k hk => by obtain ⟨C, q⟩ := ownR_blk q5 hk; exact hT k C q)⟩
theorem zeroGh : (Tryz.prog.info? 42).bind (·.zero) = some (.agg (gvC gNh)) := by kernel_rfl
theorem copy_hl {w : World} {o n m : Nat} {d y : Nat → Int} (h : Blk w o (rL 33 m (gvR mkHr (hF d y) n)).toArray 96) (hn : n ≤ m) (hm : m ≤ 9223372036854775807) (hy : ∀ j, j < n → R256 (y j)) : Hl w (.slice (some ⟨o, 0, none⟩) n m) n d y := by
  refine ⟨⟨hF_ok n d y, Or.inr ⟨o, 0, m, rfl, hn, hm, h.lt, fun i hi => ?_⟩⟩, hy⟩
  have q := h.rangeRw (gvR_ok mkH_ok (hF_ok n d y) n (Nat.le_refl _)) (show i < m by omega)
  have e : gvR mkHr (hF d y) n i = hF d y i := by unfold gvR; rw [if_pos hi]
  rw [e] at q
  rw [Nat.zero_add]
  exact q
theorem gv_shE (n : Nat) (d y : Nat → Int) (hy : ∀ j, j < n → R256 (y j)) : ∃ a b : Nat → Int, gvR mkHr (hF d y) n = hF a b ∧ ∀ j, R256 (b j) := by
  refine ⟨fun i => if i < n then d i else mkH i, fun i => if i < n then y i else 0, ?_, fun j => ?_⟩
  · funext i
    unfold gvR mkHr hF
    by_cases h : i < n
    · rw [if_pos h]; simp only [if_pos h]
    · rw [if_neg h]; simp only [if_neg h]
  · by_cases h : j < n
    · simp only [if_pos h]; exact hy j h
    · simp only [if_neg h]; exact r256_c0
set_option maxHeartbeats 16000000 in
set_option maxRecDepth 100000 in
theorem Intact_h (gb base Ka : Nat) (G : Nat → Value) (Na : Nat → Nat) (Fa : Nat → Nat → List Value) (w : World) (hA : Gv w gb base G 16 42 49 96 33 Ka Na Fa)
    (hz : ∀ q, q < 30 → ¬ q = 16 → ¬ q = 17 → G q = .slice none 0 0) (hNa : ∀ j, j < Ka → Na j ≤ 140737488355328)
    (hFa : ∀ j, j < Ka → ∃ a b : Nat → Int, Fa j = hF a b ∧ ∀ i, R256 (b i)) (hKa : Ka ≤ 1000) :
    Calls Tryz.prog 18 #[.pointer (some ⟨gb, 0, none⟩)] w fun e w' => e = .returned (.bool true) ∧ Chg w w' [] := by
  have hg := hA.gb
  obtain ⟨pa, ca, pb, cb, ea1, ea2, hrda⟩ := hA.readH
  have HZ : Hid (∀ q, q < 30 → ¬ q = 16 → ¬ q = 17 → G q = .slice none 0 0) := hz
  have HRDa : Hid (∀ j, j < Ka → ∃ lg mg x y, pa = some ⟨lg, 0, none⟩ ∧ pb = some ⟨mg, 0, none⟩ ∧ w.cell? ⟨lg, j, none⟩ = some x ∧ w.cell? ⟨mg, j, none⟩ = some y ∧ Rl w 33 x (Na j) (Fa j) ∧ Rl w 33 y (Na j) (Fa j)) := hrda
  have HNa : Hid (∀ j, j < Ka → Na j ≤ 140737488355328) := hNa
  have HFa : Hid (∀ j, j < Ka → ∃ a b : Nat → Int, Fa j = hF a b ∧ ∀ i, R256 (b i)) := hFa
  have HEa1 : Hid (G 16 = .slice pa Ka ca) := ea1
  have HEa2 : Hid (G 17 = .slice pb Ka cb) := ea2
  have HKa : Hid (Ka ≤ 1000) := hKa
  have HG : Hid (Blk w gb (gvC G) 42) := hg
  clear hz hrda hNa hFa ea1 ea2 hA hg hKa
  go_enter Tryz.func18, Tryz.ntmps18
  have cc : Chg w w [] := Chg.refl w []
  go_wp2_with fail
  go_loopw [3] (fun t wr => t = .int .i64 0 ∧ Chg w wr []) (fun _ _ => 0)
  case atStart => exact ⟨rfl, cc⟩
  case round =>
    clear cc
    obtain ⟨rfl, cc⟩ := hrel
    have c0 := ((HG.out.chg cc (by simp)).cell 0).trans (gvC_get G 0 (by decide))
    rw [HZ.out 0 (by decide) (by decide) (by decide)] at c0
    go_wp2_with fail
    go_loopw [4] (fun t wr => t = .int .i64 0 ∧ Chg w wr []) (fun _ _ => 0)
    case atStart => exact ⟨rfl, cc⟩
    case round =>
      clear cc c0
      obtain ⟨rfl, cc⟩ := hrel
      have c0 := ((HG.out.chg cc (by simp)).cell 2).trans (gvC_get G 2 (by decide))
      rw [HZ.out 2 (by decide) (by decide) (by decide)] at c0
      go_wp2_with fail
      go_loopw [5] (fun t wr => t = .int .i64 0 ∧ Chg w wr []) (fun _ _ => 0)
      case atStart => exact ⟨rfl, cc⟩
      case round =>
        clear cc c0
        obtain ⟨rfl, cc⟩ := hrel
        have c0 := ((HG.out.chg cc (by simp)).cell 4).trans (gvC_get G 4 (by decide))
        rw [HZ.out 4 (by decide) (by decide) (by decide)] at c0
        go_wp2_with fail
        go_loopw [6] (fun t wr => t = .int .i64 0 ∧ Chg w wr []) (fun _ _ => 0)
        case atStart => exact ⟨rfl, cc⟩
        case round =>
          clear cc c0
          obtain ⟨rfl, cc⟩ := hrel
          have c0 := ((HG.out.chg cc (by simp)).cell 6).trans (gvC_get G 6 (by decide))
          rw [HZ.out 6 (by decide) (by decide) (by decide)] at c0
          go_wp2_with fail
          go_loopw [7] (fun t wr => t = .int .i64 0 ∧ Chg w wr []) (fun _ _ => 0)
          case atStart => exact ⟨rfl, cc⟩
          case round =>
            clear cc c0
            obtain ⟨rfl, cc⟩ := hrel
            have c0 := ((HG.out.chg cc (by simp)).cell 8).trans (gvC_get G 8 (by decide))
            rw [HZ.out 8 (by decide) (by decide) (by decide)] at c0
            go_wp2_with fail
            go_loopw [8] (fun t wr => t = .int .i64 0 ∧ Chg w wr []) (fun _ _ => 0)
            case atStart => exact ⟨rfl, cc⟩
            case round =>
              clear cc c0
              obtain ⟨rfl, cc⟩ := hrel
              have c0 := ((HG.out.chg cc (by simp)).cell 10).trans (gvC_get G 10 (by decide))
              rw [HZ.out 10 (by decide) (by decide) (by decide)] at c0
              go_wp2_with fail
              go_loopw [9] (fun t wr => t = .int .i64 0 ∧ Chg w wr []) (fun _ _ => 0)
              case atStart => exact ⟨rfl, cc⟩
              case round =>
                clear cc c0
                obtain ⟨rfl, cc⟩ := hrel
                have c0 := ((HG.out.chg cc (by simp)).cell 12).trans (gvC_get G 12 (by decide))
                rw [HZ.out 12 (by decide) (by decide) (by decide)] at c0
                go_wp2_with fail
                go_loopw [10] (fun t wr => t = .int .i64 0 ∧ Chg w wr []) (fun _ _ => 0)
                case atStart => exact ⟨rfl, cc⟩
                case round =>
                  clear cc c0
                  obtain ⟨rfl, cc⟩ := hrel
                  have c0 := ((HG.out.chg cc (by simp)).cell 14).trans (gvC_get G 14 (by decide))
                  rw [HZ.out 14 (by decide) (by decide) (by decide)] at c0
                  go_wp2_with fail
                  go_loopw [11] (fun t wr => ∃ i : Nat, i ≤ Ka ∧ t = .int .i64 (i : Int) ∧ Chg w wr []) (fun t _ => ((Ka : Int) - intOf t).toNat)
                  case atStart => exact ⟨0, Nat.zero_le _, rfl, cc⟩
                  case round =>
                    clear cc c0
                    obtain ⟨ia, hi, rfl, cc⟩ := hrel
                    have c0 := ((HG.out.chg cc (by simp)).cell 16).trans (gvC_get G 16 (by decide))
                    rw [HEa1.out] at c0
                    by_cases h8 : ia < Ka
                    · have hI : (ia : Int) < (Ka : Int) := by omega
                      have hI0 : (0 : Int) ≤ (ia : Int) := by omega
                      have e1 : IntKind.i64.wrap ((ia : Int) + 1) = (ia : Int) + 1 := by have := HKa.out; rw [IntKind.wrap_i64]; omega
                      have HI1 : Hid (ia + 1 ≤ Ka) := h8
                      have HM : Hid (((Ka : Int) - intOf (.int .i64 ((ia : Int) + 1))).toNat < ((Ka : Int) - intOf (.int .i64 (ia : Int))).toNat) := by show ((Ka : Int) - intOf (.int .i64 ((ia : Int) + 1))).toNat < ((Ka : Int) - intOf (.int .i64 (ia : Int))).toNat; simp [intOf]; omega
                      obtain ⟨lg, mg, x, y, rfl, rfl, cl, cm, rx, ry⟩ := HRDa.out ia h8
                      obtain ⟨f1, f2, hf1, hf2⟩ := HFa.out ia h8
                      have HNI : Hid (Na ia ≤ 140737488355328) := HNa.out ia h8
                      have XL : Hid (Hl wr x (Na ia) f1 f2) := ⟨hf1 ▸ rx.chg cc (Off.nil _), fun j _ => hf2 j⟩
                      have YL : Hid (Hl wr y (Na ia) f1 f2) := ⟨hf1 ▸ ry.chg cc (Off.nil _), fun j _ => hf2 j⟩
                      have CL : Hid (wr.cell? ⟨lg, ia, none⟩ = some x) := cell_chgH cl cc
                      have CM : Hid (wr.cell? ⟨mg, ia, none⟩ = some y) := cell_chgH cm cc
                      have HGR : Hid (Blk wr gb (gvC G) 42) := HG.out.chg cc (by simp)
                      clear cl cm rx ry hf1 hf2 h8 hi HRDa HFa HNa
                      go_wp2_with fail
                      refine wp_region_held_drew (S := fun w' => Chg wr w' []) (by kernel_rfl) ((Chg.refl wr _).drew) (fun hHeld => ?_)
                      refine take_val (v := ?_) 0 (some 227) rfl (by kernel_rfl) (by kernel_rfl) (by kernel_rfl) (fun _ _ _ h => h) rfl rfl (fun w hSw => ?_) hHeld ?_
                      rotate_left
                      · (go_simp; try with_reducible rfl)
                      try simp only [Act.put, List.setIfInBounds_toArray, List.set_cons_zero, List.set_cons_succ]
                      refine take_val (v := ?_) 1 (some 228) rfl (by kernel_rfl) (by kernel_rfl) (by kernel_rfl) (fun _ _ _ h => h) rfl rfl (fun w hSw => ?_) hHeld ?_
                      rotate_left
                      · (go_simp; try with_reducible rfl)
                      try simp only [Act.put, List.setIfInBounds_toArray, List.set_cons_zero, List.set_cons_succ]
                      refine take_val (v := ?_) 2 (some 229) rfl (by kernel_rfl) (by kernel_rfl) (by kernel_rfl) (fun _ _ _ h => h) rfl rfl (fun w hSw => ?_) hHeld ?_
                      rotate_left
                      · (go_simp; try with_reducible rfl)
                      try simp only [Act.put, List.setIfInBounds_toArray, List.set_cons_zero, List.set_cons_succ]
                      refine take_val (v := (Value.slice (some ⟨lg, 0, none⟩) Ka ca)) 3 (some 230) rfl (by kernel_rfl) (by kernel_rfl) (by kernel_rfl) (fun _ _ _ h => h) rfl rfl (fun w hSw => ?_) hHeld ?_
                      · have cx := (HGR.out.chg hSw (by simp)).cell 16
                        rw [gvC_get G 16 (by decide), HEa1.out] at cx
                        (go_simp; try with_reducible rfl)
                      try simp only [Act.put, List.setIfInBounds_toArray, List.set_cons_zero, List.set_cons_succ]
                      refine take_val (v := ?_) 4 (some 231) rfl (by kernel_rfl) (by kernel_rfl) (by kernel_rfl) (fun _ _ _ h => h) rfl rfl (fun w hSw => ?_) hHeld ?_
                      rotate_left
                      · (go_simp; try with_reducible rfl)
                      try simp only [Act.put, List.setIfInBounds_toArray, List.set_cons_zero, List.set_cons_succ]
                      refine take_val (v := ?_) 5 (some 232) rfl (by kernel_rfl) (by kernel_rfl) (by kernel_rfl) (fun _ _ _ h => h) rfl rfl (fun w hSw => ?_) hHeld ?_
                      rotate_left
                      · (go_simp; try with_reducible rfl)
                      try simp only [Act.put, List.setIfInBounds_toArray, List.set_cons_zero, List.set_cons_succ]
                      refine take_val (v := (x)) 6 (some 233) rfl (by kernel_rfl) (by kernel_rfl) (by kernel_rfl) (fun _ _ _ h => h) rfl rfl (fun w hSw => ?_) hHeld ?_
                      · have cx := cell_chgH CL.out hSw
                        (go_simp; try with_reducible rfl)
                      try simp only [Act.put, List.setIfInBounds_toArray, List.set_cons_zero, List.set_cons_succ]
                      refine take_val (v := ?_) 7 (some 234) rfl (by kernel_rfl) (by kernel_rfl) (by kernel_rfl) (fun _ _ _ h => h) rfl rfl (fun w hSw => ?_) hHeld ?_
                      rotate_left
                      · (go_simp; try with_reducible rfl)
                      try simp only [Act.put, List.setIfInBounds_toArray, List.set_cons_zero, List.set_cons_succ]
                      refine take_val (v := ?_) 8 (some 235) rfl (by kernel_rfl) (by kernel_rfl) (by kernel_rfl) (fun _ _ _ h => h) rfl rfl (fun w hSw => ?_) hHeld ?_
                      rotate_left
                      · (go_simp; try with_reducible rfl)
                      try simp only [Act.put, List.setIfInBounds_toArray, List.set_cons_zero, List.set_cons_succ]
                      refine take_val (v := ?_) 9 (some 236) rfl (by kernel_rfl) (by kernel_rfl) (by kernel_rfl) (fun _ _ _ h => h) rfl rfl (fun w hSw => ?_) hHeld ?_
                      rotate_left
                      · (go_simp; try with_reducible rfl)
                      try simp only [Act.put, List.setIfInBounds_toArray, List.set_cons_zero, List.set_cons_succ]
                      refine take_val (v := (Value.slice (some ⟨mg, 0, none⟩) Ka cb)) 10 (some 237) rfl (by kernel_rfl) (by kernel_rfl) (by kernel_rfl) (fun _ _ _ h => h) rfl rfl (fun w hSw => ?_) hHeld ?_
                      · have cx := (HGR.out.chg hSw (by simp)).cell 17
                        rw [gvC_get G 17 (by decide), HEa2.out] at cx
                        (go_simp; try with_reducible rfl)
                      try simp only [Act.put, List.setIfInBounds_toArray, List.set_cons_zero, List.set_cons_succ]
                      refine take_val (v := ?_) 11 (some 238) rfl (by kernel_rfl) (by kernel_rfl) (by kernel_rfl) (fun _ _ _ h => h) rfl rfl (fun w hSw => ?_) hHeld ?_
                      rotate_left
                      · (go_simp; try with_reducible rfl)
                      try simp only [Act.put, List.setIfInBounds_toArray, List.set_cons_zero, List.set_cons_succ]
                      refine take_val (v := ?_) 12 (some 239) rfl (by kernel_rfl) (by kernel_rfl) (by kernel_rfl) (fun _ _ _ h => h) rfl rfl (fun w hSw => ?_) hHeld ?_
                      rotate_left
                      · (go_simp; try with_reducible rfl)
                      try simp only [Act.put, List.setIfInBounds_toArray, List.set_cons_zero, List.set_cons_succ]
                      refine take_val (v := (y)) 13 (some 240) rfl (by kernel_rfl) (by kernel_rfl) (by kernel_rfl) (fun _ _ _ h => h) rfl rfl (fun w hSw => ?_) hHeld ?_
                      · have cx := cell_chgH CM.out hSw
                        (go_simp; try with_reducible rfl)
                      try simp only [Act.put, List.setIfInBounds_toArray, List.set_cons_zero, List.set_cons_succ]
                      refine wpAnyH_ready (rs := [14]) (by kernel_rfl) (by simp) ?_
                      refine AllReadyH.cons (o := _) rfl (fun K hK => ?_) ?_
                      ·
                        go_simp
                        refine (SameShares_t x y (Na ia) f1 f2 HNI.out _ (XL.out.chg hHeld) (YL.out.chg hHeld)).mono ?_
                        rintro e v7 ⟨rfl, k7⟩
                        go_wp2_with fail
                        refine hK.out _ _ (hHeld.trans1 k7) (fun hHeld => ?_)
                        clear hK K
                        try simp only [Act.put, List.setIfInBounds_toArray, List.set_cons_zero, List.set_cons_succ]
                        refine take_val (v := ?_) 15 (some 242) rfl (by kernel_rfl) (by kernel_rfl) (by kernel_rfl) (fun _ _ _ h => h) rfl rfl (fun w hSw => ?_) hHeld ?_
                        rotate_left
                        · (go_simp; try with_reducible rfl)
                        try simp only [Act.put, List.setIfInBounds_toArray, List.set_cons_zero, List.set_cons_succ]
                        refine wpAnyH_done (by kernel_rfl) ?_ _
                        go_wp2_with fail
                        exact ⟨⟨ia + 1, HI1.out, by go_num, cc.trans1 hHeld⟩, HM.out⟩
                      exact AllReadyH.nil
                    · have h9 : ia = Ka := by omega
                      subst h9
                      have hIa : ¬ (ia : Int) < (ia : Int) := by omega
                      go_wp2_with fail
                      go_loopw [12] (fun t wr => t = .int .i64 0 ∧ Chg w wr []) (fun _ _ => 0)
                      case atStart => exact ⟨rfl, cc⟩
                      case round =>
                        clear cc c0
                        obtain ⟨rfl, cc⟩ := hrel
                        have c0 := ((HG.out.chg cc (by simp)).cell 18).trans (gvC_get G 18 (by decide))
                        rw [HZ.out 18 (by decide) (by decide) (by decide)] at c0
                        go_wp2_with fail
                        go_loopw [13] (fun t wr => t = .int .i64 0 ∧ Chg w wr []) (fun _ _ => 0)
                        case atStart => exact ⟨rfl, cc⟩
                        case round =>
                          clear cc c0
                          obtain ⟨rfl, cc⟩ := hrel
                          have c0 := ((HG.out.chg cc (by simp)).cell 20).trans (gvC_get G 20 (by decide))
                          rw [HZ.out 20 (by decide) (by decide) (by decide)] at c0
                          go_wp2_with fail
                          go_loopw [14] (fun t wr => t = .int .i64 0 ∧ Chg w wr []) (fun _ _ => 0)
                          case atStart => exact ⟨rfl, cc⟩
                          case round =>
                            clear cc c0
                            obtain ⟨rfl, cc⟩ := hrel
                            have c0 := ((HG.out.chg cc (by simp)).cell 22).trans (gvC_get G 22 (by decide))
                            rw [HZ.out 22 (by decide) (by decide) (by decide)] at c0
                            go_wp2_with fail
                            go_loopw [15] (fun t wr => t = .int .i64 0 ∧ Chg w wr []) (fun _ _ => 0)
                            case atStart => exact ⟨rfl, cc⟩
                            case round =>
                              clear cc c0
                              obtain ⟨rfl, cc⟩ := hrel
                              have c0 := ((HG.out.chg cc (by simp)).cell 24).trans (gvC_get G 24 (by decide))
                              rw [HZ.out 24 (by decide) (by decide) (by decide)] at c0
                              go_wp2_with fail
                              go_loopw [16] (fun t wr => t = .int .i64 0 ∧ Chg w wr []) (fun _ _ => 0)
                              case atStart => exact ⟨rfl, cc⟩
                              case round =>
                                clear cc c0
                                obtain ⟨rfl, cc⟩ := hrel
                                have c0 := ((HG.out.chg cc (by simp)).cell 26).trans (gvC_get G 26 (by decide))
                                rw [HZ.out 26 (by decide) (by decide) (by decide)] at c0
                                go_wp2_with fail
                                go_loopw [17] (fun t wr => t = .int .i64 0 ∧ Chg w wr []) (fun _ _ => 0)
                                case atStart => exact ⟨rfl, cc⟩
                                case round =>
                                  clear cc c0
                                  obtain ⟨rfl, cc⟩ := hrel
                                  have c0 := ((HG.out.chg cc (by simp)).cell 28).trans (gvC_get G 28 (by decide))
                                  rw [HZ.out 28 (by decide) (by decide) (by decide)] at c0
                                  go_wp2_with fail
                                  go_ret
                                  exact ⟨rfl, cc⟩
end Go.Proofs.YtemjpibmefggnaaGreat
