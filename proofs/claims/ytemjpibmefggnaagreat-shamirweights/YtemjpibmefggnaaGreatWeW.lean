/- ShamirWeights: the walk. -/
import Derived.Test.YtemjpibmefggnaaGreatRWt
import Derived.Test.YtemjpibmefggnaaGreatGvX
import Derived.Test.YtemjpibmefggnaaGreatMgE
import Derived.Test.YtemjpibmefggnaaGreatMgF
set_option linter.unusedVariables false
set_option linter.unusedSimpArgs false
set_option linter.unnecessarySimpa false
namespace Go.Proofs.YtemjpibmefggnaaGreat
open Go.RowKit N

/-- What Lagrange's number and error are. -/
def LgQ (x : Int) (d : Nat → Int) (N : Nat) (id V E : Int) : Prop :=
  (¬ idR d N = 0 → V = 0 ∧ E = idR d N) ∧ (idR d N = 0 → (¬ ∃ i, i < N ∧ d i = id) → V = 0 ∧ E = 92) ∧ (∀ i, i < N → idR d N = 0 → d i = id → V = wtv x d N i ∧ E = 0)
theorem LgP.q {x : Int} {d : Nat → Int} {N : Nat} {id : Int} {e : Ending} (h : LgP x d N id e) : ∃ V E, e = .returned (.tuple #[fe V, .int .i64 E]) ∧ LgQ x d N id V E := h
theorem lg_same {x : Int} {d : Nat → Int} {N : Nat} {id V E V' E' : Int} (h : LgQ x d N id V E) (g : LgQ x d N id V' E') : V = V' ∧ E = E' := by
  by_cases h0 : idR d N = 0
  · by_cases h1 : ∃ i, i < N ∧ d i = id
    · obtain ⟨i, hi, e⟩ := h1
      obtain ⟨a, b⟩ := h.2.2 i hi h0 e
      obtain ⟨a', b'⟩ := g.2.2 i hi h0 e
      exact ⟨a.trans a'.symm, b.trans b'.symm⟩
    · obtain ⟨a, b⟩ := h.2.1 h0 h1
      obtain ⟨a', b'⟩ := g.2.1 h0 h1
      exact ⟨a.trans a'.symm, b.trans b'.symm⟩
  · obtain ⟨a, b⟩ := h.1 h0
    obtain ⟨a', b'⟩ := g.1 h0
    exact ⟨a.trans a'.symm, b.trans b'.symm⟩
theorem idR_wW (f : Nat → Int) (N : Nat) : IntKind.i64.wrap (idR f N) = idR f N := by
  have hv : ∀ k, idE f k = 0 ∨ idE f k = 4 ∨ idE f k = 5 := fun k => by
    induction k with
    | zero => exact Or.inl rfl
    | succ k ih =>
      unfold idE
      split
      · split
        · split
          · exact Or.inr (Or.inr rfl)
          · exact Or.inl rfl
        · exact Or.inr (Or.inl rfl)
      · exact ih
  have h : idR f N = 0 ∨ idR f N = 4 ∨ idR f N = 5 ∨ idR f N = 8 := by
    unfold idR
    split
    · exact Or.inr (Or.inr (Or.inr rfl))
    · rcases hv N with h | h | h <;> simp [h]
  rw [IntKind.wrap_i64]
  omega
theorem lgE_w {x : Int} {d : Nat → Int} {N : Nat} {id V E : Int} (h : LgQ x d N id V E) : IntKind.i64.wrap E = E := by
  by_cases h0 : idR d N = 0
  · by_cases h1 : ∃ i, i < N ∧ d i = id
    · obtain ⟨i, hi, e⟩ := h1
      rw [(h.2.2 i hi h0 e).2]; rfl
    · rw [(h.2.1 h0 h1).2]; rfl
  · rw [(h.1 h0).2]; exact idR_wW d N
/-- How many weights there are. -/
def wN (d : Nat → Int) (N : Nat) : Nat := if idR d N = 0 then N else 0
theorem wN_le (d : Nat → Int) (N : Nat) : wN d N ≤ 255 := by
  unfold wN
  split
  · rename_i h; exact idE_len (idR_zero h).1
  · omega
theorem Weights_s2 (u : Value) (N : Nat) (d : Nat → Int) (hN : N ≤ 4611686018427387904) (w : World) (hL : Il w u N d) :
    Calls Tryz.prog 22 #[u] w fun e w' => ∃ r, e = .returned (.tuple #[r, .int .i64 (idR d N)]) ∧ Ls w' r (wN d N) (nT (wtv 0 d N)) ∧ Chg w w' [] := by
  refine (Weights_s u N d hN w hL).mono ?_
  rintro e w' ⟨h, k⟩
  unfold WtP at h
  rcases h with ⟨h0, rfl⟩ | ⟨h0, g, _, rfl, S⟩
  · exact ⟨_, rfl, by unfold wN; rw [if_neg h0]; exact ⟨fun i hi => by omega, Or.inl ⟨rfl, rfl⟩⟩, k⟩
  · exact ⟨_, by rw [h0], by unfold wN; rw [if_pos h0]; exact S.ls (by have := idE_len (idR_zero h0).1; omega) (fun j _ => r256_rl (wtv_rl 0 d N j)) (Nat.le_refl _), k⟩
theorem Weights_r2 (u : Value) (N : Nat) (d : Nat → Int) (hN : N ≤ 4611686018427387904) (w : World) (hL : Il w u N d) :
    Calls Tryz.prog 23 #[u] w fun e w' => ∃ r, e = .returned (.tuple #[r, .int .i64 (idR d N)]) ∧ Ls w' r (wN d N) (nT (wtv 0 d N)) ∧ Chg w w' [] := by
  refine (Weights_r u N d hN w hL).mono ?_
  rintro e w' ⟨h, k⟩
  unfold WrP at h
  rcases h with ⟨h0, rfl⟩ | ⟨h0, r, rfl, O⟩
  · exact ⟨_, rfl, by unfold wN; rw [if_neg h0]; exact ⟨fun i hi => by omega, Or.inl ⟨rfl, rfl⟩⟩, k⟩
  · exact ⟨_, by rw [h0], by unfold wN; rw [if_pos h0]; exact O.pl (fun j _ => r256_rl (wtv_rl 0 d N j)), k⟩
set_option maxHeartbeats 32000000 in
set_option maxRecDepth 100000 in
theorem weights_walk (u : Value) (N : Nat) (d : Nat → Int) (id x : Int) (rx : R256 x) (hN : N ≤ 17592186044000) (w : World) (hI : Il w u N d) :
    Calls Tryz.prog 4 #[u, .int .i64 id, fe x] w fun e w' => e = .returned (.bool true) ∧ Chg w w' [] := by
  have hge := feGuard
  have HN : Hid (N ≤ 17592186044000) := hN
  have HRx : Hid (R256 x) := rx
  have HIl : Hid (Il w u N d) := hI
  obtain ⟨I, hId⟩ : ∃ I, idR d N = I := ⟨_, rfl⟩
  have HI : Hid (idR d N = I) := hId
  have HWI : Hid (IntKind.i64.wrap I = I) := by show _ = _; rw [← hId]; exact idR_wW d N
  clear hN rx hI hId
  go_enter Tryz.func4, Tryz.ntmps4
  go_upto_region 2 with (first
    | (with_reducible refine alloc_w rfl 42 rfl (.agg (gvC gNi)) zeroGv (gvC gNi) rfl ?_; intro gb w2 hgb Bg k2)
    | (refine box_w rfl 24 _ rfl (feC x) rfl ?_; intro xb w1 hxb Bx k1))
  have C : Chg w w2 [] := k1.trans1 k2
  have HGB : Hid (w.heap.size ≤ gb) := by have := k1.size; show w.heap.size ≤ gb; omega
  have HXG : Hid (¬ xb ∈ [gb]) := by have := Bx.lt; show ¬ xb ∈ [gb]; simp; omega
  have HGLt : Hid (gb < w2.heap.size) := Bg.lt
  replace Bx := Bx.chg k2 (by simp)
  have G0 : Gv w2 gb gb gNi 2 42 25 3 1 0 (fun _ => 0) (fun _ _ => []) := Gv.noneE Bg _ _
  clear hxb hgb k1 k2 Bg
  try simp only [Act.put, List.setIfInBounds_toArray, List.set_cons_zero, List.set_cons_succ]
  go_cut [8, 9] (fun t8 t9 wc => ∃ (ab : Nat) (la lb : Value) (V E : Int), t8 = .pointer (some ⟨ab, 0, none⟩) ∧ t9 = .int .i64 E ∧ LgQ x d N id V E ∧ Blk wc ab (feC V) 24 ∧ Gv wc gb gb (upV (upV gNi 2 la) (2 + 1) lb) 2 42 25 3 1 (0 + 1) (fun j => if j = 0 then N + 3 else 0) (fun j => if j = 0 then gvR (iF mkJ) (iF d) N else fun _ => []) ∧ Blk wc xb (feC x) 24 ∧ Chg w wc [])
  case first =>
    refine wp_region_held_drew (S := fun w' => Chg w2 w' [gb]) (by kernel_rfl) ((Chg.refl w2 _).drew) (fun hHeld => ?_)
    have CH : Chg w2 w2.drew [] := (Chg.refl _ _).drew
    refine take_val (v := ?_) 0 (some 17) rfl (by kernel_rfl) (by kernel_rfl) (by kernel_rfl) (fun _ _ _ h => h) rfl rfl (fun w hSw => ?_) hHeld ?_
    rotate_left
    · (go_simp; try with_reducible rfl)
    try simp only [Act.put, List.setIfInBounds_toArray, List.set_cons_zero, List.set_cons_succ]
    refine take_val (v := ?_) 2 (some 19) rfl (by kernel_rfl) (by kernel_rfl) (by kernel_rfl) (fun _ _ _ h => h) rfl rfl (fun w hSw => ?_) hHeld ?_
    rotate_left
    · (go_simp; try with_reducible rfl)
    try simp only [Act.put, List.setIfInBounds_toArray, List.set_cons_zero, List.set_cons_succ]
    refine take_load 3 (some 20) (feC x) rfl (by kernel_rfl) (by kernel_rfl) (by kernel_rfl) (fun _ _ _ h => h) rfl rfl 24 _ rfl xb rfl 24 _ (fun w h => Bx.chg h HXG.out) Tryz.underlying24 rfl (by first | exact feInfo | kernel_rfl) hHeld ?_
    try simp only [Act.put, List.setIfInBounds_toArray, List.set_cons_zero, List.set_cons_succ]
    refine wpAnyH_ready (rs := [1, 8]) (by kernel_rfl) (by simp) ?_
    refine AllReadyH.cons (o := _) rfl (fun K hK => ?_) ?_
    ·
      go_simp
      refine (GivenInts_s gb N gb 0 _ d gNi _ _ _ (by have := HN.out; omega) (by decide) (Nat.le_of_lt (Nat.lt_of_lt_of_le HGLt.out CH.size)) (HIl.out.chg (C.trans1 CH)) (G0.chg CH)).mono ?_
      rintro e w3 ⟨r, rfl, o, la, lb, rfl, ho, c1, bo, G1⟩
      have gch1 : gch gb gNi 2 = [gb] := rfl
      rw [gch1] at c1
      have X1 := copy_ilE bo (by omega) (by have := HN.out; omega)
      have CW : Chg w w3 [] := (C.trans1 CH).trans c1 (fun x hx => Or.inr (by simp at hx; subst hx; exact HGB.out))
      go_wp2_with fail
      refine hK.out _ _ (hHeld.trans1 c1) (fun hHeld => ?_)
      clear hK K
      try simp only [Act.put, List.setIfInBounds_toArray, List.set_cons_zero, List.set_cons_succ]
      clear c1 bo ho gch1
      refine wpAnyH_ready (rs := [4, 8]) (by kernel_rfl) (by simp) ?_
      refine AllReadyH.cons (o := _) rfl (fun K hK => ?_) ?_
      ·
        go_simp
        refine (Lagrange_s _ N d (by have := HN.out; omega) id x HRx.out _ X1).mono ?_
        rintro e w5 ⟨hLg, k⟩
        obtain ⟨V, E, rfl, hQ⟩ := hLg.q
        have HQ : Hid (LgQ x d N id V E) := hQ
        clear hQ hLg
        go_wp2_with fail
        refine hK.out _ _ (hHeld.trans1 k.wide) (fun hHeld => ?_)
        clear hK K
        try simp only [Act.put, List.setIfInBounds_toArray, List.set_cons_zero, List.set_cons_succ]
        replace G1 := G1.chg k
        replace CW := CW.trans1 k
        clear k X1
        refine take_val (v := ?_) 5 (some 16) rfl (by kernel_rfl) (by kernel_rfl) (by kernel_rfl) (fun _ _ _ h => h) rfl rfl (fun w hSw => ?_) hHeld ?_
        rotate_left
        · (go_simp; try with_reducible rfl)
        try simp only [Act.put, List.setIfInBounds_toArray, List.set_cons_zero, List.set_cons_succ]
        refine take_val (v := ?_) 6 (some 22) rfl (by kernel_rfl) (by kernel_rfl) (by kernel_rfl) (fun _ _ _ h => h) rfl rfl (fun w hSw => ?_) hHeld ?_
        rotate_left
        · (go_simp; try with_reducible rfl)
        try simp only [Act.put, List.setIfInBounds_toArray, List.set_cons_zero, List.set_cons_succ]
        refine take_val (v := ?_) 7 (some 23) rfl (by kernel_rfl) (by kernel_rfl) (by kernel_rfl) (fun _ _ _ h => h) rfl rfl (fun w hSw => ?_) hHeld ?_
        rotate_left
        · (go_simp; try with_reducible rfl)
        try simp only [Act.put, List.setIfInBounds_toArray, List.set_cons_zero, List.set_cons_succ]
        refine wpAnyH_ready (rs := [8]) (by kernel_rfl) (by simp) ?_
        refine AllReadyH.cons (o := _) rfl (fun K hK => ?_) ?_
        ·
          rw [if_pos (by rfl)]
          refine wp_alloc_w 24 rfl (.agg z32) zeroSc z32 rfl ?_
          intro ab w6 hab Ba k6
          change K (Act.put _ (some 8) _) _
          have HA2 : Hid (w2.heap.size ≤ ab) := by have := hHeld.size; show w2.heap.size ≤ ab; omega
          have HAB : Hid (w.heap.size ≤ ab) := by have := HA2.out; have := C.size; show w.heap.size ≤ ab; omega
          have HAG2 : Hid (¬ ab = gb) := by have := HA2.out; have := HGLt.out; show ¬ ab = gb; omega
          refine hK.out _ _ (hHeld.trans1 k6.wide) (fun hHeld => ?_)
          clear hK K
          try simp only [Act.put, List.setIfInBounds_toArray, List.set_cons_zero, List.set_cons_succ]
          replace G1 := G1.chg k6
          replace CW := CW.trans1 k6
          clear k6 hab
          refine wpAnyH_ready (rs := [9]) (by kernel_rfl) (by simp) ?_
          refine AllReadyH.cons (o := _) rfl (fun K hK => ?_) ?_
          ·
            rw [if_pos (by rfl)]
            refine wp_store_w Ba 24 _ _ (feC V) rfl rfl rfl feInfo rfl (feC_one _) ?_
            intro w7 B7 k7
            change K (Act.put _ none _) _
            refine hK.out _ _ (hHeld.new k7 HA2.out) (fun hHeld => ?_)
            clear hK K
            try simp only [Act.put, List.setIfInBounds_toArray, List.set_cons_zero, List.set_cons_succ]
            refine take_val (v := ?_) 10 (some 9) rfl (by kernel_rfl) (by kernel_rfl) (by kernel_rfl) (fun _ _ _ h => h) rfl rfl (fun w hSw => ?_) hHeld ?_
            rotate_left
            · (go_simp; try with_reducible rfl)
            try simp only [Act.put, List.setIfInBounds_toArray, List.set_cons_zero, List.set_cons_succ]
            refine wpAnyH_done (by kernel_rfl) ?_ _
            have G7 := G1.beside (G1.gb.chg k7 (by have := HAG2.out; simp; omega)) rfl rfl k7 (fun o C h => by simpa using h.ne Ba (by decide)) (fun o C h => by simpa using h.ne Ba (by decide))
            replace CW := CW.new k7 HAB.out
            replace Bx := Bx.chg hHeld HXG.out
            clear hHeld k7 G1 Ba G0
            go_wp2_with fail
            go_meet
            case rel => exact ⟨ab, la, lb, V, E, rfl, rfl, HQ.out, B7, G7, Bx, CW⟩
          exact AllReadyH.nil
        exact AllReadyH.nil
      refine AllReadyH.cons (o := _) rfl (fun K hK => ?_) ?_
      ·
        rw [if_pos (by rfl)]
        refine wp_alloc_w 24 rfl (.agg z32) zeroSc z32 rfl ?_
        intro ab w6 hab Ba k6
        change K (Act.put _ (some 8) _) _
        have HA2 : Hid (w2.heap.size ≤ ab) := by have := hHeld.size; show w2.heap.size ≤ ab; omega
        have HAB : Hid (w.heap.size ≤ ab) := by have := HA2.out; have := C.size; show w.heap.size ≤ ab; omega
        have HAG2 : Hid (¬ ab = gb) := by have := HA2.out; have := HGLt.out; show ¬ ab = gb; omega
        refine hK.out _ _ (hHeld.trans1 k6.wide) (fun hHeld => ?_)
        clear hK K
        try simp only [Act.put, List.setIfInBounds_toArray, List.set_cons_zero, List.set_cons_succ]
        replace G1 := G1.chg k6
        replace CW := CW.trans1 k6
        replace X1 := X1.chg k6
        clear k6 hab
        refine wpAnyH_ready (rs := [4]) (by kernel_rfl) (by simp) ?_
        refine AllReadyH.cons (o := _) rfl (fun K hK => ?_) ?_
        ·
          go_simp
          refine (Lagrange_s _ N d (by have := HN.out; omega) id x HRx.out _ X1).mono ?_
          rintro e w5 ⟨hLg, k⟩
          obtain ⟨V, E, rfl, hQ⟩ := hLg.q
          have HQ : Hid (LgQ x d N id V E) := hQ
          clear hQ hLg
          go_wp2_with fail
          refine hK.out _ _ (hHeld.trans1 k.wide) (fun hHeld => ?_)
          clear hK K
          try simp only [Act.put, List.setIfInBounds_toArray, List.set_cons_zero, List.set_cons_succ]
          replace G1 := G1.chg k
          replace CW := CW.trans1 k
          replace Ba := Ba.chg k (by simp)
          clear k X1
          refine take_val (v := ?_) 5 (some 16) rfl (by kernel_rfl) (by kernel_rfl) (by kernel_rfl) (fun _ _ _ h => h) rfl rfl (fun w hSw => ?_) hHeld ?_
          rotate_left
          · (go_simp; try with_reducible rfl)
          try simp only [Act.put, List.setIfInBounds_toArray, List.set_cons_zero, List.set_cons_succ]
          refine take_val (v := ?_) 6 (some 22) rfl (by kernel_rfl) (by kernel_rfl) (by kernel_rfl) (fun _ _ _ h => h) rfl rfl (fun w hSw => ?_) hHeld ?_
          rotate_left
          · (go_simp; try with_reducible rfl)
          try simp only [Act.put, List.setIfInBounds_toArray, List.set_cons_zero, List.set_cons_succ]
          refine take_val (v := ?_) 7 (some 23) rfl (by kernel_rfl) (by kernel_rfl) (by kernel_rfl) (fun _ _ _ h => h) rfl rfl (fun w hSw => ?_) hHeld ?_
          rotate_left
          · (go_simp; try with_reducible rfl)
          try simp only [Act.put, List.setIfInBounds_toArray, List.set_cons_zero, List.set_cons_succ]
          refine wpAnyH_ready (rs := [9]) (by kernel_rfl) (by simp) ?_
          refine AllReadyH.cons (o := _) rfl (fun K hK => ?_) ?_
          ·
            rw [if_pos (by rfl)]
            refine wp_store_w Ba 24 _ _ (feC V) rfl rfl rfl feInfo rfl (feC_one _) ?_
            intro w7 B7 k7
            change K (Act.put _ none _) _
            refine hK.out _ _ (hHeld.new k7 HA2.out) (fun hHeld => ?_)
            clear hK K
            try simp only [Act.put, List.setIfInBounds_toArray, List.set_cons_zero, List.set_cons_succ]
            refine take_val (v := ?_) 10 (some 9) rfl (by kernel_rfl) (by kernel_rfl) (by kernel_rfl) (fun _ _ _ h => h) rfl rfl (fun w hSw => ?_) hHeld ?_
            rotate_left
            · (go_simp; try with_reducible rfl)
            try simp only [Act.put, List.setIfInBounds_toArray, List.set_cons_zero, List.set_cons_succ]
            refine wpAnyH_done (by kernel_rfl) ?_ _
            have G7 := G1.beside (G1.gb.chg k7 (by have := HAG2.out; simp; omega)) rfl rfl k7 (fun o C h => by simpa using h.ne Ba (by decide)) (fun o C h => by simpa using h.ne Ba (by decide))
            replace CW := CW.new k7 HAB.out
            replace Bx := Bx.chg hHeld HXG.out
            clear hHeld k7 G1 Ba G0
            go_wp2_with fail
            go_meet
            case rel => exact ⟨ab, la, lb, V, E, rfl, rfl, HQ.out, B7, G7, Bx, CW⟩
          exact AllReadyH.nil
        exact AllReadyH.nil
      exact AllReadyH.nil
    refine AllReadyH.cons (o := _) rfl (fun K hK => ?_) ?_
    ·
      rw [if_pos (by rfl)]
      refine wp_alloc_w 24 rfl (.agg z32) zeroSc z32 rfl ?_
      intro ab w6 hab Ba k6
      change K (Act.put _ (some 8) _) _
      have HA2 : Hid (w2.heap.size ≤ ab) := by have := hHeld.size; show w2.heap.size ≤ ab; omega
      have HAB : Hid (w.heap.size ≤ ab) := by have := HA2.out; have := C.size; show w.heap.size ≤ ab; omega
      have HAG2 : Hid (¬ ab = gb) := by have := HA2.out; have := HGLt.out; show ¬ ab = gb; omega
      refine hK.out _ _ (hHeld.trans1 k6.wide) (fun hHeld => ?_)
      clear hK K
      try simp only [Act.put, List.setIfInBounds_toArray, List.set_cons_zero, List.set_cons_succ]
      replace CH := CH.trans1 k6
      clear k6 hab
      refine wpAnyH_ready (rs := [1]) (by kernel_rfl) (by simp) ?_
      refine AllReadyH.cons (o := _) rfl (fun K hK => ?_) ?_
      ·
        go_simp
        refine (GivenInts_s gb N gb 0 _ d gNi _ _ _ (by have := HN.out; omega) (by decide) (Nat.le_of_lt (Nat.lt_of_lt_of_le HGLt.out CH.size)) (HIl.out.chg (C.trans1 CH)) (G0.chg CH)).mono ?_
        rintro e w3 ⟨r, rfl, o, la, lb, rfl, ho, c1, bo, G1⟩
        have gch1 : gch gb gNi 2 = [gb] := rfl
        rw [gch1] at c1
        have X1 := copy_ilE bo (by omega) (by have := HN.out; omega)
        have CW : Chg w w3 [] := (C.trans1 CH).trans c1 (fun x hx => Or.inr (by simp at hx; subst hx; exact HGB.out))
        go_wp2_with fail
        refine hK.out _ _ (hHeld.trans1 c1) (fun hHeld => ?_)
        clear hK K
        try simp only [Act.put, List.setIfInBounds_toArray, List.set_cons_zero, List.set_cons_succ]
        replace Ba := Ba.chg c1 (by have := HAG2.out; simpa using this)
        clear c1 bo ho gch1
        refine wpAnyH_ready (rs := [4]) (by kernel_rfl) (by simp) ?_
        refine AllReadyH.cons (o := _) rfl (fun K hK => ?_) ?_
        ·
          go_simp
          refine (Lagrange_s _ N d (by have := HN.out; omega) id x HRx.out _ X1).mono ?_
          rintro e w5 ⟨hLg, k⟩
          obtain ⟨V, E, rfl, hQ⟩ := hLg.q
          have HQ : Hid (LgQ x d N id V E) := hQ
          clear hQ hLg
          go_wp2_with fail
          refine hK.out _ _ (hHeld.trans1 k.wide) (fun hHeld => ?_)
          clear hK K
          try simp only [Act.put, List.setIfInBounds_toArray, List.set_cons_zero, List.set_cons_succ]
          replace G1 := G1.chg k
          replace CW := CW.trans1 k
          replace Ba := Ba.chg k (by simp)
          clear k X1
          refine take_val (v := ?_) 5 (some 16) rfl (by kernel_rfl) (by kernel_rfl) (by kernel_rfl) (fun _ _ _ h => h) rfl rfl (fun w hSw => ?_) hHeld ?_
          rotate_left
          · (go_simp; try with_reducible rfl)
          try simp only [Act.put, List.setIfInBounds_toArray, List.set_cons_zero, List.set_cons_succ]
          refine take_val (v := ?_) 6 (some 22) rfl (by kernel_rfl) (by kernel_rfl) (by kernel_rfl) (fun _ _ _ h => h) rfl rfl (fun w hSw => ?_) hHeld ?_
          rotate_left
          · (go_simp; try with_reducible rfl)
          try simp only [Act.put, List.setIfInBounds_toArray, List.set_cons_zero, List.set_cons_succ]
          refine take_val (v := ?_) 7 (some 23) rfl (by kernel_rfl) (by kernel_rfl) (by kernel_rfl) (fun _ _ _ h => h) rfl rfl (fun w hSw => ?_) hHeld ?_
          rotate_left
          · (go_simp; try with_reducible rfl)
          try simp only [Act.put, List.setIfInBounds_toArray, List.set_cons_zero, List.set_cons_succ]
          refine wpAnyH_ready (rs := [9]) (by kernel_rfl) (by simp) ?_
          refine AllReadyH.cons (o := _) rfl (fun K hK => ?_) ?_
          ·
            rw [if_pos (by rfl)]
            refine wp_store_w Ba 24 _ _ (feC V) rfl rfl rfl feInfo rfl (feC_one _) ?_
            intro w7 B7 k7
            change K (Act.put _ none _) _
            refine hK.out _ _ (hHeld.new k7 HA2.out) (fun hHeld => ?_)
            clear hK K
            try simp only [Act.put, List.setIfInBounds_toArray, List.set_cons_zero, List.set_cons_succ]
            refine take_val (v := ?_) 10 (some 9) rfl (by kernel_rfl) (by kernel_rfl) (by kernel_rfl) (fun _ _ _ h => h) rfl rfl (fun w hSw => ?_) hHeld ?_
            rotate_left
            · (go_simp; try with_reducible rfl)
            try simp only [Act.put, List.setIfInBounds_toArray, List.set_cons_zero, List.set_cons_succ]
            refine wpAnyH_done (by kernel_rfl) ?_ _
            have G7 := G1.beside (G1.gb.chg k7 (by have := HAG2.out; simp; omega)) rfl rfl k7 (fun o C h => by simpa using h.ne Ba (by decide)) (fun o C h => by simpa using h.ne Ba (by decide))
            replace CW := CW.new k7 HAB.out
            replace Bx := Bx.chg hHeld HXG.out
            clear hHeld k7 G1 Ba G0
            go_wp2_with fail
            go_meet
            case rel => exact ⟨ab, la, lb, V, E, rfl, rfl, HQ.out, B7, G7, Bx, CW⟩
          exact AllReadyH.nil
        exact AllReadyH.nil
      exact AllReadyH.nil
    exact AllReadyH.nil
  case rest =>
  clear C G0 Bx
  obtain ⟨ab, la, lb, V, E, rfl, rfl, hQ1, Ba, G1, Bx, C⟩ := hcut
  obtain ⟨w3, rfl⟩ : ∃ z, z = wc := ⟨wc, rfl⟩
  have HQ1 : Hid (LgQ x d N id V E) := hQ1
  have HWE : Hid (IntKind.i64.wrap E = E) := lgE_w hQ1
  obtain ⟨Ga, hGa⟩ : ∃ G, upV (upV gNi 2 la) (2 + 1) lb = G := ⟨_, rfl⟩
  have HGa : Hid (∀ q, q < 30 → ¬ q = 2 → ¬ q = 3 → Ga q = .slice none 0 0) := fun q _ h1 h2 => by rw [← hGa, upV_other _ _ _ _ h2, upV_other _ _ _ _ h1]; rfl
  rw [hGa] at G1
  clear hQ1 hGa
  go_wp2_with (first
    | (with_reducible refine load_b Bx 24 (.tmp 5) Tryz.underlying24 ?_ ?_ ?_ ?_ ?_ ?_
       · rfl
       · rfl
       · rfl
       · rfl
       · exact feInfo))
  refine (Lagrange_r u N d (by have := HN.out; omega) id x HRx.out w3 (HIl.out.chg C)).mono ?_
  rintro e w4 ⟨hL2, k⟩
  obtain ⟨V2, E2, rfl, hQ2⟩ := hL2.q
  obtain ⟨rfl, rfl⟩ := lg_same hQ2 HQ1.out
  replace C := C.trans1 k
  replace Ba := Ba.chg k (by simp)
  replace G1 := G1.chg k
  clear k hQ2 hL2 Bx HQ1
  go_upto_region 4 with (first
    | (with_reducible refine alloc_w rfl 24 rfl (.agg z32) zeroSc z32 rfl ?_; intro bb w5 hbb Bb0 k5)
    | (refine store_w Bb0 rfl 24 _ _ (feC V2) rfl rfl rfl feInfo rfl (feC_one _) ?_; intro w6 Bb k6))
  have K6 : Chg w4 w6 [] := k5.new k6 hbb
  replace C := C.trans1 K6
  replace Ba := Ba.chg K6 (by simp)
  replace G1 := G1.chg K6
  clear K6 k5 k6 hbb Bb0
  have hgl : gb ≤ w6.heap.size := Nat.le_of_lt G1.gb.lt
  go_wp2_with fail
  refine (GivenInts_s gb N gb (0 + 1) u d Ga _ _ w6 (by have := HN.out; omega) (by decide) hgl (HIl.out.chg C) G1).mono ?_
  rintro e w7 ⟨r, rfl, o2, la2, lb2, rfl, ho2, c2, bo2, G2⟩
  have hac := G1.off Ba (by decide) (by decide)
  have hbc := G1.off Bb (by decide) (by decide)
  replace Ba := Ba.chg c2 hac
  replace Bb := Bb.chg c2 hbc
  replace C := C.trans c2 (fun x hx => Or.inr (by have := G1.geE (Nat.le_refl _) x hx; have := HGB.out; omega))
  have X2 : Il w7 (.slice (some ⟨o2, 0, none⟩) N (N + 3)) N d := copy_ilE bo2 (by omega) (by have := HN.out; omega)
  obtain ⟨Gb, hGb⟩ : ∃ G, upV (upV Ga 2 la2) (2 + 1) lb2 = G := ⟨_, rfl⟩
  have HGb : Hid (∀ q, q < 30 → ¬ q = 2 → ¬ q = 3 → Gb q = .slice none 0 0) := fun q h0 h1 h2 => by rw [← hGb, upV_other _ _ _ _ h2, upV_other _ _ _ _ h1]; exact HGa.out q h0 h1 h2
  rw [hGb] at G2
  obtain ⟨uv, huv⟩ : ∃ uv : Value, .slice (some ⟨o2, 0, none⟩) N (N + 3) = uv := ⟨_, rfl⟩
  rw [huv] at X2
  rw [huv]
  clear c2 bo2 ho2 hGb huv hac hbc G1 hgl HGa
  go_wp2_with fail
  refine (Weights_s2 uv N d (by have := HN.out; omega) w7 X2).mono ?_
  rintro e w8 ⟨l1, rfl, L1, k⟩
  rw [HI.out]
  replace C := C.trans1 k
  replace Ba := Ba.chg k (by simp)
  replace Bb := Bb.chg k (by simp)
  replace G2 := G2.chg k
  clear k X2
  go_wp2_with fail
  refine (Weights_r2 u N d (by have := HN.out; omega) w8 (HIl.out.chg C)).mono ?_
  rintro e wr ⟨l2, rfl, L2, k⟩
  rw [HI.out]
  replace C := C.trans1 k
  replace Ba := Ba.chg k (by simp)
  replace Bb := Bb.chg k (by simp)
  replace G2 := G2.chg k
  replace L1 := L1.chg0 k
  clear k
  have GI : Gv wr gb gb Gb 8 42 22 24 32 0 (fun _ => 0) (fun _ _ => []) := by
    refine ⟨G2.gb, [], [], ?_, ?_, ?_, fun j hj => by omega⟩
    · rw [HGb.out 8 (by decide) (by decide) (by decide)]; exact World.ownsRow_nil _ _ _ _
    · rw [HGb.out (8 + 1) (by decide) (by decide) (by decide)]; exact World.ownsRow_nil _ _ _ _
    · rw [HGb.out 8 (by decide) (by decide) (by decide)]; intro x hx; simp [ob, Value.ownBlock] at hx
  have HSS : Hid (∀ W, Chg wr W [] → Calls Tryz.prog 24 #[l1, l2] W fun e w' => e = .returned (.bool true) ∧ Chg W w' []) := fun W h =>
    SameScalars_t l1 l2 (wN d N) _ (by have := wN_le d N; omega) W (L1.chg0 h) (L2.chg0 h)
  have HIT : Hid (∀ W, Chg wr W [] → Calls Tryz.prog 18 #[.pointer (some ⟨gb, 0, none⟩)] W fun e w' => e = .returned (.bool true) ∧ Chg W w' []) := fun W h =>
    Intact_n gb gb (0 + 1 + 1) 0 Gb _ _ _ _ W (G2.chg h) (GI.chg h) (fun q h0 h1 h2 _ _ => HGb.out q h0 h1 h2) (fun j hj => by have := HN.out; split <;> (try split) <;> omega) (fun j hj => by omega)
      (fun j hj => by
        obtain ⟨z, hz⟩ := gv_intE N d
        by_cases e : j = 0 + 1
        · exact ⟨z, by simp only [if_pos e]; exact hz⟩
        · obtain rfl : j = 0 := by omega
          exact ⟨z, by simp only [if_neg e, if_pos]; exact hz⟩) (fun j hj => by omega) (by omega) (by omega)
  clear G2 GI L1 L2 HIl HRx HN HGb
  have hEE : (E2 == E2) = true := by simp
  have hII : (I == I) = true := by simp
  go_wp2_with (first
    | (with_reducible refine load_b Ba 24 (.tmp 8) Tryz.underlying24 ?_ ?_ ?_ ?_ ?_ ?_
       · rfl
       · rfl
       · rfl
       · rfl
       · exact feInfo)
    | (with_reducible refine load_b Bb 24 (.tmp 10) Tryz.underlying24 ?_ ?_ ?_ ?_ ?_ ?_
       · rfl
       · rfl
       · rfl
       · rfl
       · exact feInfo)
    | (go_at_call 16; refine (numS E2 HWE.out _).mono ?_; rintro e w' ⟨rfl, rfl⟩))
  refine (HSS.out _ (Chg.refl _ _)).mono ?_
  rintro e v1 ⟨rfl, j1⟩
  go_wp2_with (first
    | (go_at_call 16; refine (numS I HWI.out _).mono ?_; rintro e w' ⟨rfl, rfl⟩))
  refine (HIT.out _ j1).mono ?_
  rintro e v2 ⟨rfl, j2⟩
  go_wp2_with fail
  refine (alive_s _).mono ?_
  rintro e v3 ⟨rfl, j3⟩
  go_wp2_with fail
  go_ret
  exact ⟨rfl, ((C.trans1 j1).trans1 j2).trans1 j3⟩
end Go.Proofs.YtemjpibmefggnaaGreat
