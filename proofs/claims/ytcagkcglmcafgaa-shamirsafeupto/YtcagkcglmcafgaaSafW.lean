/- ShamirSafe: the walk. -/
import Derived.Test.YtcagkcglmcafgaaSafH
import Derived.Test.YtcagkcglmcafgaaMgE
import Derived.Test.YtcagkcglmcafgaaMgK
set_option linter.unusedVariables false
set_option linter.unusedSimpArgs false
set_option linter.unnecessarySimpa false
namespace Go.Proofs.Ytcagkcglmcafgaa
open Go.RowKit N

theorem eqf_is {A B : Int} (ra : R256 A) (rb : R256 B) (h : eqf A B = true) : A = B := by rw [eqf_eq ra rb] at h; exact of_decide_eq_true h
theorem sf_all {f : Nat → Nat} {d y : Nat → Int} {s : Int} {N M : Nat} (h : M = N + 1 ∧ ev f 0 0 M = ad s 0 ∧ ∀ j, j < N → ev f (d j) 0 M = ad (y j) 0) : ∀ k, k < N + 1 → ev f (sfX d k) 0 (N + 1) = ad (sfY s y k) 0 := fun k hk => by
  obtain ⟨rfl, h1, h2⟩ := h
  rcases k with _ | k
  · exact h1
  · rw [sfX_s, sfY_s]; exact h2 k (by omega)
set_option maxHeartbeats 64000000 in
set_option maxRecDepth 100000 in
theorem safe_walk (vs vo : Value) (N M : Nat) (d y : Nat → Int) (f : Nat → Nat) (s : Int) (rs : R256 s) (hN : N ≤ 1048576) (hM : M ≤ 1048576) (w : World) (hLs : Hl w vs N d y) (hLo : Ls w vo M f) :
    Calls Try.prog 3 #[vs, fe s, vo] w fun e w' => e = .returned (.bool true) ∧ Chg w w' [] := by
  have HLs : Hid (Hl w vs N d y) := hLs
  have HLo : Hid (Ls w vo M f) := hLo
  obtain ⟨ps, cs, rfl, hps⟩ := hLs.1.form
  obtain ⟨po, co, rfl, _⟩ := hLo.form
  have HP : Hid (∀ i, i < N → ∃ g o, ps = some ⟨g, o, none⟩ ∧ g < w.heap.size ∧ w.rangeAt g (o + i * 33) (hF d y i)) := hps
  have HRy : Hid (∀ j, j < N → R256 (y j)) := hLs.2
  have HRs : Hid (R256 s) := rs
  have HB : Hid (N ≤ 1048576 ∧ M ≤ 1048576) := ⟨hN, hM⟩
  clear hps
  obtain ⟨ip, hpe, hpz, hps, _⟩ := ptRow
  obtain ⟨ii, hii, hizz, hiss, _⟩ := intRowS
  obtain ⟨ie, hie, hiz, his, _⟩ := scRowL
  have HBP := built_pt1 s
  obtain ⟨n, hn⟩ : ∃ n, N + 1 = n := ⟨_, rfl⟩
  have HNn : Hid (N + 1 = n) := hn
  have hnI : ((N : Int) + 1) = (n : Int) := by omega
  have ewN : IntKind.i64.wrap ((N : Int) + 1) = (n : Int) := by rw [IntKind.wrap_i64]; omega
  clear hLs hLo rs hN hM hn hnI
  go_enter Try.func3, Try.ntmps3
  go_wp2_with (refine box_w rfl 24 _ rfl (feC s) rfl ?_; intro kb w1 hkb Bk k1)
  refine (alive_s w1).mono ?_
  rintro e w2 ⟨rfl, k2⟩
  have C : Chg w w2 [] := k1.trans1 k2
  replace Bk := Bk.chg k2 (by simp)
  have HKB : Hid (w.heap.size ≤ kb) := hkb
  clear k1 k2 hkb
  go_wp2_with (first
    | (with_reducible refine load_b Bk 24 (.tmp 4) Try.underlying24 ?_ ?_ ?_ ?_ ?_ ?_
       · rfl
       · rfl
       · rfl
       · rfl
       · exact feInfo)
    | (with_reducible refine build_1 ?_ 29 1 (.tmp 20) ?_ (fe s) ?_ (ptC 0 s) HBP ?_
       · rfl
       · rfl
       · rfl)
    | (with_reducible refine bslice_w ?_ 30 29 (.tmp 21) ?_ (.agg (ptC 0 s)) ?_ (ptC 0 s) ip (.agg zPt) Try.underlying30 hpe hpz 64 hps ?_ ?_ (fill_pt 0 s) ?_
       · rfl
       · rfl
       · rfl
       · omega
       · omega
       intro gp0 w3 hgp0 Bp0 k3))
  have P0 : Opt w3 w.heap.size (.slice (some ⟨gp0, 0, none⟩) 1 1) (ptL s d y 0) := opt_one Bp0 (by have := C.size; omega)
  have O0 : Oi w3 w.heap.size (.slice none 0 0) (idL d 0) := Oi.nil _ _
  replace C := C.trans1 k3
  replace Bk := Bk.chg k3 (by simp)
  clear k3 Bp0 hgp0 HBP
  have HBk : Hid (Blk w3 kb (feC s) 24) := Bk
  obtain ⟨w30, hw30⟩ : ∃ w30, w3 = w30 := ⟨_, rfl⟩
  go_loopw [7, 8, 9] (fun t7 t8 t9 wr => ∃ i : Nat, i ≤ N ∧ t9 = .int .i64 (i : Int) ∧ Oi wr w.heap.size t7 (idL d i) ∧ Opt wr w.heap.size t8 (ptL s d y i) ∧ Chg w wr [] ∧ Blk wr kb (feC s) 24) (fun _ _ t9 _ => (N - intOf t9).toNat)
  case atStart => exact ⟨0, Nat.zero_le _, rfl, O0, P0, C, Bk⟩
  case round =>
    clear O0 P0 C Bk HBk hw30
    obtain ⟨i, hi, rfl, O, P, C, Bk⟩ := hrel
    by_cases h : i < N
    · have hI : (i : Int) < (N : Int) := by omega
      have hI0 : (0 : Int) ≤ (i : Int) := by omega
      have e1 : IntKind.i64.wrap ((i : Int) + 1) = (i : Int) + 1 := by have := HB.out; rw [IntKind.wrap_i64]; omega
      have HMs : Hid _ := mN N i h
      have HI : Hid (i < N) := h
      have HNi : Hid (i ≤ 1048576) := by have := HB.out; show i ≤ 1048576; omega
      have HS2 : Hid (ptL s d y (i + 1) = ptL s d y i ++ [(wu (d i), y i)]) := ptL_s s d y i
      obtain ⟨gp, o, rfl, hg, hF⟩ := HP.out i h
      have hF' : wr.rangeAt gp (o + i * 33) (.int .i64 (d i) :: feL (y i)) := rangeAt_chg hF hg C (by simp)
      have hID : wr.cell? ⟨gp, o + i * 33, none⟩ = some (.int .i64 (d i)) := by have := hF' 0 _ rfl; rwa [Nat.add_zero] at this
      have HOB7 : Hid (∀ k ∈ ob u7, w.heap.size ≤ k) := fun k hk => (ob_own O k hk).1
      have HOB8 : Hid (∀ k ∈ ob u8, w.heap.size ≤ k) := fun k hk => (ob_own P k hk).1
      have HGo7 : Hid (¬ gp ∈ ob u7) := fun hx => by have := (ob_own O gp hx).1; omega
      have HGo : Hid (¬ gp ∈ ob u8) := fun hx => by have := (ob_own P gp hx).1; omega
      have HK7 : Hid (¬ kb ∈ ob u7) := fun hx => by
        obtain ⟨D, q⟩ := ownsRow_blkS O.1 hx
        exact absurd (blk_ty q Bk) (by decide)
      have HK8 : Hid (¬ kb ∈ ob u8) := fun hx => by
        obtain ⟨D, q⟩ := ownsRow_blkS P.1 hx
        exact absurd (blk_ty q Bk) (by decide)
      have HCz0 : Hid (w.heap.size ≤ wr.heap.size) := C.size
      have HGl0 : Hid (gp < wr.heap.size) := Nat.lt_of_lt_of_le hg C.size
      clear hF hg h hi
      go_upto_region 9 with (first
        | (with_reducible refine bslice_w ?_ 27 3 (.tmp 34) ?_ (.int .i64 (d i)) ?_ #[.int .i64 (d i)] ii (.int .i64 0) Try.underlying27 hii hizz 1 hiss ?_ ?_ (fill_int (d i)) ?_
           · rfl
           · rfl
           · rfl
           · omega
           · omega
           intro gx w2 hgx Bx k2)
        | (with_reducible refine append_oi ?_ (.tmp 29) (.tmp 35) ?_ w.heap.size u7 gx (idL d i) (d i) ?_ ?_ (O.chg k2) Bx ?_ ?_ ?_
           · rfl
           · rfl
           · rfl
           · rfl
           · rw [idL_len]; have := HNi.out; omega
           · have := HCz0.out; have := k2.size; omega
           intro v7 wq O7 k7))
      have P7 := (P.chg k2).keep (O.chg k2) k7
      replace C := (C.trans1 k2).trans k7 (fun i hi => Or.inr (HOB7.out i hi))
      replace Bk := (Bk.chg k2 (by simp)).chg k7 HK7.out
      replace hID := cell_chg (cell_chg hID HGl0.out k2 (by simp)) (Nat.lt_of_lt_of_le HGl0.out k2.size) k7 HGo7.out
      have hVL0 : wr.rangeAt gp (o + i * 33 + 1) (feL (y i)) := fun j v hv => by
        have := hF' (j + 1) v (by rw [List.getElem?_cons_succ]; exact hv)
        rw [← this]; congr 2; omega
      have hVL := rangeAt_chg (rangeAt_chg hVL0 HGl0.out k2 (by simp)) (Nat.lt_of_lt_of_le HGl0.out k2.size) k7 HGo7.out
      have HGl : Hid (gp < wq.heap.size) := by have := HGl0.out; have := k2.size; have := k7.size; show gp < wq.heap.size; omega
      have HCz : Hid (w.heap.size ≤ wq.heap.size) := C.size
      clear O P k2 k7 Bx hgx hF' hVL0
      rename Oi wq w.heap.size v7 _ => O
      rename Opt wq w.heap.size u8 _ => P
      rw [← idL_s] at O
      refine wp_region_held_drew (S := fun w' => Chg wq w' (ob u8)) (by kernel_rfl) ((Chg.refl wq _).drew) (fun hHeld => ?_)
      refine take_val (v := ?_) 0 (some 37) rfl (by kernel_rfl) (by kernel_rfl) (by kernel_rfl) (fun _ _ _ h => h) rfl rfl (fun w hSw => ?_) hHeld ?_
      rotate_left
      · (go_simp; try with_reducible rfl)
      try simp only [Act.put, List.setIfInBounds_toArray, List.set_cons_zero, List.set_cons_succ]
      refine take_val (v := ?_) 1 (some 38) rfl (by kernel_rfl) (by kernel_rfl) (by kernel_rfl) (fun _ _ _ h => h) rfl rfl (fun w hSw => ?_) hHeld ?_
      rotate_left
      · (go_simp; try with_reducible rfl)
      try simp only [Act.put, List.setIfInBounds_toArray, List.set_cons_zero, List.set_cons_succ]
      refine take_val (v := ?_) 2 (some 39) rfl (by kernel_rfl) (by kernel_rfl) (by kernel_rfl) (fun _ _ _ h => h) rfl rfl (fun w hSw => ?_) hHeld ?_
      rotate_left
      · (go_simp; try with_reducible rfl)
      try simp only [Act.put, List.setIfInBounds_toArray, List.set_cons_zero, List.set_cons_succ]
      refine take_val (v := ?_) 3 (some 40) rfl (by kernel_rfl) (by kernel_rfl) (by kernel_rfl) (fun _ _ _ h => h) rfl rfl (fun w hSw => ?_) hHeld ?_
      rotate_left
      · (go_simp; try with_reducible rfl)
      try simp only [Act.put, List.setIfInBounds_toArray, List.set_cons_zero, List.set_cons_succ]
      refine take_val (v := ?_) 4 (some 41) rfl (by kernel_rfl) (by kernel_rfl) (by kernel_rfl) (fun _ _ _ h => h) rfl rfl (fun w hSw => ?_) hHeld ?_
      rotate_left
      · (go_simp; try with_reducible rfl)
      try simp only [Act.put, List.setIfInBounds_toArray, List.set_cons_zero, List.set_cons_succ]
      refine take_val (v := (.int .i64 (d i))) 5 (some 42) rfl (by kernel_rfl) (by kernel_rfl) (by kernel_rfl) (fun _ _ _ h => h) rfl rfl (fun w hSw => ?_) hHeld ?_
      · have cx := cell_chg hID HGl.out hSw HGo.out
        (go_simp; try with_reducible rfl)
      try simp only [Act.put, List.setIfInBounds_toArray, List.set_cons_zero, List.set_cons_succ]
      refine take_val (v := ?_) 7 (some 44) rfl (by kernel_rfl) (by kernel_rfl) (by kernel_rfl) (fun _ _ _ h => h) rfl rfl (fun w hSw => ?_) hHeld ?_
      rotate_left
      · (go_simp; try with_reducible rfl)
      try simp only [Act.put, List.setIfInBounds_toArray, List.set_cons_zero, List.set_cons_succ]
      refine take_val (v := ?_) 8 (some 45) rfl (by kernel_rfl) (by kernel_rfl) (by kernel_rfl) (fun _ _ _ h => h) rfl rfl (fun w hSw => ?_) hHeld ?_
      rotate_left
      · (go_simp; try with_reducible rfl)
      try simp only [Act.put, List.setIfInBounds_toArray, List.set_cons_zero, List.set_cons_succ]
      refine take_val (v := ?_) 9 (some 46) rfl (by kernel_rfl) (by kernel_rfl) (by kernel_rfl) (fun _ _ _ h => h) rfl rfl (fun w hSw => ?_) hHeld ?_
      rotate_left
      · (go_simp; try with_reducible rfl)
      try simp only [Act.put, List.setIfInBounds_toArray, List.set_cons_zero, List.set_cons_succ]
      refine take_val (v := ?_) 10 (some 47) rfl (by kernel_rfl) (by kernel_rfl) (by kernel_rfl) (fun _ _ _ h => h) rfl rfl (fun w hSw => ?_) hHeld ?_
      rotate_left
      · (go_simp; try with_reducible rfl)
      try simp only [Act.put, List.setIfInBounds_toArray, List.set_cons_zero, List.set_cons_succ]
      refine take_val (v := (.agg (feC (y i)))) 11 (some 48) rfl (by kernel_rfl) (by kernel_rfl) (by kernel_rfl) (fun _ _ _ h => h) rfl rfl (fun w hSw => ?_) hHeld ?_
      · exact exec_load_m w 24 _ rfl gp (o + i * 33 + 1) rfl (feL (y i)) _ (rangeAt_chg hVL HGl.out hSw HGo.out) Try.underlying24 rfl feInfo
      try simp only [Act.put, List.setIfInBounds_toArray, List.set_cons_zero, List.set_cons_succ]
      refine wpAnyH_ready (rs := [6]) (by kernel_rfl) (by simp) ?_
      refine AllReadyH.cons (o := _) rfl (fun K hK => ?_) ?_
      ·
        go_simp
        refine (Place_w (d i) _).mono ?_
        rintro e w3 ⟨rfl, k3⟩
        go_wp2_with fail
        refine hK.out _ _ (hHeld.trans1 k3.wide) (fun hHeld => ?_)
        clear hK K
        try simp only [Act.put, List.setIfInBounds_toArray, List.set_cons_zero, List.set_cons_succ]
        have C3 : Chg wq w3 [] := (Chg.refl wq []).drew.trans1 k3
        clear k3
        refine take_val (v := (.agg (ptC (wu (d i)) (y i)))) 12 (some 49) rfl (by kernel_rfl) (by kernel_rfl) (by kernel_rfl) (fun _ _ _ h => h) rfl rfl (fun w hSw => ?_) hHeld ?_
        · exact exec_build2 w 29 0 1 (.tmp 43) (.tmp 48) rfl (fe (wu (d i))) (fe (y i)) rfl rfl (ptC (wu (d i)) (y i)) (built_pt _ _)
        try simp only [Act.put, List.setIfInBounds_toArray, List.set_cons_zero, List.set_cons_succ]
        refine wpAnyH_ready (rs := [13]) (by kernel_rfl) (by simp) ?_
        refine AllReadyH.cons (o := _) rfl (fun K hK => ?_) ?_
        ·
          rw [if_pos (by rfl)]
          refine wp_bslice_w 30 29 (.tmp 49) rfl (.agg (ptC (wu (d i)) (y i))) rfl (ptC (wu (d i)) (y i)) ip (.agg zPt) Try.underlying30 hpe hpz 64 hps (by omega) (by omega) (fill_pt _ _) ?_
          intro gx w5 hgx Bg k5
          change K (Act.put _ (some 50) _) _
          refine hK.out _ _ (hHeld.trans1 k5.wide) (fun hHeld => ?_)
          clear hK K
          try simp only [Act.put, List.setIfInBounds_toArray, List.set_cons_zero, List.set_cons_succ]
          refine wpAnyH_ready (rs := [14]) (by kernel_rfl) (by simp) ?_
          refine AllReadyH.cons (o := _) rfl (fun K hK => ?_) ?_
          ·
            rw [if_pos (by rfl)]
            refine wp_append_op (.tmp 37) (.tmp 50) rfl w.heap.size u8 gx (ptL s d y i) (wu (d i)) (y i) rfl rfl ((P.chg C3).chg k5) Bg (by rw [ptL_len]; have := HNi.out; omega) (by have := HCz.out; have := C3.size; have := k5.size; omega) ?_
            intro v7 w7 P7 k7
            change K (Act.put _ (some 51) _) _
            refine hK.out _ _ (hHeld.trans1 k7) (fun hHeld => ?_)
            clear hK K
            try simp only [Act.put, List.setIfInBounds_toArray, List.set_cons_zero, List.set_cons_succ]
            refine take_val (v := ?_) 15 (some 8) rfl (by kernel_rfl) (by kernel_rfl) (by kernel_rfl) (fun _ _ _ h => h) rfl rfl (fun w hSw => ?_) hHeld ?_
            rotate_left
            · (go_simp; try with_reducible rfl)
            try simp only [Act.put, List.setIfInBounds_toArray, List.set_cons_zero, List.set_cons_succ]
            refine wpAnyH_done (by kernel_rfl) ?_ _
            replace C := ((C.trans1 C3).trans1 k5).trans k7 (fun i hi => Or.inr (HOB8.out i hi))
            have O7 := ((O.chg C3).chg k5).keepO ((P.chg C3).chg k5) k7
            replace Bk := ((Bk.chg C3 (by simp)).chg k5 (by simp)).chg k7 HK8.out
            clear k7 k5 C3 hHeld hgx Bg O P hID hVL
            go_wp2_with fail
            go_roundw
            case rel => exact ⟨i + 1, HI.out, by go_num, O7, by rw [HS2.out]; exact P7, C, Bk⟩
            case measure => exact HMs.out
          exact AllReadyH.nil
        exact AllReadyH.nil
      exact AllReadyH.nil
    · obtain rfl : N = i := by omega
      have hI : ¬ (N : Int) < (N : Int) := by omega
      obtain ⟨pi, ci, rfl⟩ := id_form O
      obtain ⟨pp, cpp, rfl⟩ := sf_form P
      have HIl : Hid (Il wr (.slice pi N ci) N d) := O.il
      rw [HNn.out] at P ⊢
      have HPt : Hid (Opt wr w.heap.size (.slice pp n cpp) (ptL s d y N)) := P
      have HB2 : Hid (n ≤ 1048577) := by have := HB.out; have := HNn.out; show n ≤ 1048577; omega
      clear h hi O P
      go_upto_region 10 with fail
      go_cut [64] (fun t wc => ∃ b : Bool, t = .bool b ∧ (b = false → idE d N = 0 ∧ n ≤ 255) ∧ Chg wr wc [])
      case first =>
        by_cases h0 : 0 < N
        · have HN0 : Hid (0 < N) := h0
          go_wp2_with fail
          refine (IDs_r _ N d (by have := HB.out; omega) wr HIl.out).mono ?_
          rintro e w5 ⟨rfl, k⟩
          obtain ⟨E, hE⟩ : ∃ E, idR d N = E := ⟨_, rfl⟩
          have HE : Hid (idR d N = E) := hE
          rw [hE]
          clear hE
          by_cases hE0 : E = 0
          · subst hE0
            by_cases h255 : (255 : Int) < (n : Int)
            · go_wp2_with fail
              go_meet
              case rel => exact ⟨true, rfl, nofun, k⟩
            · have HQ : Hid (n ≤ 255) := by show n ≤ 255; omega
              go_wp2_with fail
              go_meet
              case rel => exact ⟨_, rfl, fun _ => ⟨(idR_zero HE.out).1, HQ.out⟩, k⟩
          · go_wp2_with fail
            go_meet
            case rel => exact ⟨true, rfl, nofun, k⟩
        · obtain rfl : N = 0 := by omega
          have h255 : ¬ (255 : Int) < (n : Int) := by have := HNn.out; omega
          have HQ : Hid (n ≤ 255) := by show n ≤ 255; omega
          go_wp2_with fail
          go_meet
          case rel => exact ⟨_, rfl, fun _ => ⟨rfl, HQ.out⟩, Chg.refl _ _⟩
      case rest =>
      obtain ⟨b, rfl, hb, k⟩ := hcut
      have C1 := C.trans1 k
      have Bk1 := Bk.chg k (by simp)
      have HP1 : Hid (Opt wc w.heap.size (.slice pp n cpp) (ptL s d y N)) := HPt.out.chg k
      clear k C Bk HPt HIl
      cases b
      · obtain ⟨hid, hn255⟩ := hb rfl
        have HID : Hid (idE d N = 0) := hid
        have HN : Hid (0 < n ∧ n ≤ 255) := by have := HNn.out; show 0 < n ∧ n ≤ 255; omega
        have HD : Hid (∀ i, i < N → 1 ≤ d i ∧ d i ≤ 255) := (idE_zero hid).1
        have LP : Pl wc (.slice pp n cpp) n (sfX d) (sfY s y) := HNn.out ▸ HP1.out.sf HD.out HRs.out HRy.out
        have HZ : Hid (∀ j, j < n → ¬ zv (sfX d) j = 0) := HNn.out ▸ sf_ne hid
        clear hb hid hn255 HP1
        go_wp2_with fail
        refine (Through_s _ n (sfX d) (sfY s y) (by have := HN.out; omega) wc LP).mono ?_
        rintro e wr2 ⟨h5, k⟩
        replace C1 := C1.trans1 k
        replace Bk1 := Bk1.chg k (by simp)
        clear k LP
        rcases h5 with ⟨hbad, _⟩ | ⟨_, _, ⟨q, hq1, hq2, _⟩, _⟩ | ⟨_, _, _, g, hg, rfl, S⟩
        · exfalso; have := HN.out; omega
        · exact absurd hq2 (HZ.out q hq1)
        obtain ⟨p, hp⟩ : ∃ p, nT (cc (sfX d) (sfY s y) n) = p := ⟨_, rfl⟩
        have HPp : Hid (nT (cc (sfX d) (sfY s y) n) = p) := hp
        have HEP : Hid (∀ k, k < n → ev p (sfX d k) 0 n = ad (sfY s y k) 0) := fun k hk => by rw [← HPp.out]; exact ev_cc HZ.out hk
        have HLP : Hid (∀ W, Chg wr2 W [] → Ls W (.slice (some ⟨g, 0, none⟩) n n) n p) := fun W h => by rw [← HPp.out]; exact ((S.chg h (by simp)).ls (by have := HN.out; omega) (fun j _ => cc_r _ _ n j) (Nat.le_refl _))
        have HEv : Hid (∀ W, Chg wr2 W [] → Calls Try.prog 11 #[.slice (some ⟨g, 0, none⟩) n n, fe 0] W fun e w' => e = .returned (fe (ad s 0)) ∧ Chg W w' []) := fun W h => by
          have q := Eval_s _ n p (by have := HN.out; omega) 0 r256_c0 W (HLP.out W h)
          have e0 := HEP.out 0 HN.out.1
          rw [show sfX d 0 = 0 from rfl, show sfY s y 0 = s from rfl] at e0
          rwa [e0] at q
        clear hp hg HZ
        go_upto_region 13 with fail
        go_cut [91] (fun t wc => t = .bool false ∧ Chg wr2 wc [])
        case first =>
          refine wp_region_held_drew (S := fun w' => Chg wr2 w' []) (by kernel_rfl) ((Chg.refl wr2 _).drew) (fun hHeld => ?_)
          refine take_val (v := ?_) 0 (some 70) rfl (by kernel_rfl) (by kernel_rfl) (by kernel_rfl) (fun _ _ _ h => h) rfl rfl (fun w hSw => ?_) hHeld ?_
          rotate_left
          · (go_simp; try with_reducible rfl)
          try simp only [Act.put, List.setIfInBounds_toArray, List.set_cons_zero, List.set_cons_succ]
          refine wpAnyH_ready (rs := [1]) (by kernel_rfl) (by simp) ?_
          refine AllReadyH.cons (o := _) rfl (fun K hK => ?_) ?_
          ·
            go_simp
            refine (numS 0 (by decide) _).mono ?_
            rintro e w5 ⟨rfl, rfl⟩
            go_wp2_with fail
            refine hK.out _ _ (hHeld) (fun hHeld => ?_)
            clear hK K
            try simp only [Act.put, List.setIfInBounds_toArray, List.set_cons_zero, List.set_cons_succ]
            refine take_val (v := (.bool false)) 2 (some 72) rfl (by kernel_rfl) (by kernel_rfl) (by kernel_rfl) (fun _ _ _ h => h) rfl rfl (fun w hSw => ?_) hHeld ?_
            · (go_simp; try with_reducible rfl)
            try simp only [Act.put, List.setIfInBounds_toArray, List.set_cons_zero, List.set_cons_succ]
            refine take_val (v := ?_) 3 (some 73) rfl (by kernel_rfl) (by kernel_rfl) (by kernel_rfl) (fun _ _ _ h => h) rfl rfl (fun w hSw => ?_) hHeld ?_
            rotate_left
            · (go_simp; try with_reducible rfl)
            try simp only [Act.put, List.setIfInBounds_toArray, List.set_cons_zero, List.set_cons_succ]
            refine take_val (v := ?_) 4 (some 74) rfl (by kernel_rfl) (by kernel_rfl) (by kernel_rfl) (fun _ _ _ h => h) rfl rfl (fun w hSw => ?_) hHeld ?_
            rotate_left
            · (go_simp; try with_reducible rfl)
            try simp only [Act.put, List.setIfInBounds_toArray, List.set_cons_zero, List.set_cons_succ]
            refine take_val (v := ?_) 5 (some 75) rfl (by kernel_rfl) (by kernel_rfl) (by kernel_rfl) (fun _ _ _ h => h) rfl rfl (fun w hSw => ?_) hHeld ?_
            rotate_left
            · (go_simp; try with_reducible rfl)
            try simp only [Act.put, List.setIfInBounds_toArray, List.set_cons_zero, List.set_cons_succ]
            refine take_val (v := ?_) 6 (some 76) rfl (by kernel_rfl) (by kernel_rfl) (by kernel_rfl) (fun _ _ _ h => h) rfl rfl (fun w hSw => ?_) hHeld ?_
            rotate_left
            · (go_simp; try with_reducible rfl)
            try simp only [Act.put, List.setIfInBounds_toArray, List.set_cons_zero, List.set_cons_succ]
            refine take_val (v := ?_) 7 (some 77) rfl (by kernel_rfl) (by kernel_rfl) (by kernel_rfl) (fun _ _ _ h => h) rfl rfl (fun w hSw => ?_) hHeld ?_
            rotate_left
            · (go_simp; try with_reducible rfl)
            try simp only [Act.put, List.setIfInBounds_toArray, List.set_cons_zero, List.set_cons_succ]
            refine take_val (v := ?_) 8 (some 78) rfl (by kernel_rfl) (by kernel_rfl) (by kernel_rfl) (fun _ _ _ h => h) rfl rfl (fun w hSw => ?_) hHeld ?_
            rotate_left
            · (go_simp; try with_reducible rfl)
            try simp only [Act.put, List.setIfInBounds_toArray, List.set_cons_zero, List.set_cons_succ]
            refine take_val (v := (.bool false)) 9 (some 79) rfl (by kernel_rfl) (by kernel_rfl) (by kernel_rfl) (fun _ _ _ h => h) rfl rfl (fun w hSw => ?_) hHeld ?_
            · (go_simp; try with_reducible rfl)
            try simp only [Act.put, List.setIfInBounds_toArray, List.set_cons_zero, List.set_cons_succ]
            refine take_val (v := ?_) 10 (some 80) rfl (by kernel_rfl) (by kernel_rfl) (by kernel_rfl) (fun _ _ _ h => h) rfl rfl (fun w hSw => ?_) hHeld ?_
            rotate_left
            · (go_simp; try with_reducible rfl)
            try simp only [Act.put, List.setIfInBounds_toArray, List.set_cons_zero, List.set_cons_succ]
            refine take_val (v := ?_) 11 (some 81) rfl (by kernel_rfl) (by kernel_rfl) (by kernel_rfl) (fun _ _ _ h => h) rfl rfl (fun w hSw => ?_) hHeld ?_
            rotate_left
            · (go_simp; try with_reducible rfl)
            try simp only [Act.put, List.setIfInBounds_toArray, List.set_cons_zero, List.set_cons_succ]
            refine take_val (v := ?_) 12 (some 82) rfl (by kernel_rfl) (by kernel_rfl) (by kernel_rfl) (fun _ _ _ h => h) rfl rfl (fun w hSw => ?_) hHeld ?_
            rotate_left
            · (go_simp; try with_reducible rfl)
            try simp only [Act.put, List.setIfInBounds_toArray, List.set_cons_zero, List.set_cons_succ]
            refine take_val (v := (.agg (feC 0))) 13 (some 83) rfl (by kernel_rfl) (by kernel_rfl) (by kernel_rfl) (fun _ _ _ h => h) rfl rfl (fun w hSw => ?_) hHeld ?_
            · exact exec_build w 24 #[] rfl (feC 0) (by kernel_rfl)
            try simp only [Act.put, List.setIfInBounds_toArray, List.set_cons_zero, List.set_cons_succ]
            refine take_load 15 (some 85) (feC s) rfl (by kernel_rfl) (by kernel_rfl) (by kernel_rfl) (fun _ _ _ h => h) rfl rfl 24 _ rfl kb rfl 24 _ (fun w h => Bk1.chg h (by simp)) Try.underlying24 rfl (by first | exact feInfo | kernel_rfl) hHeld ?_
            try simp only [Act.put, List.setIfInBounds_toArray, List.set_cons_zero, List.set_cons_succ]
            refine wpAnyH_ready (rs := [14, 16]) (by kernel_rfl) (by simp) ?_
            refine AllReadyH.cons (o := _) rfl (fun K hK => ?_) ?_
            ·
              go_simp
              refine (HEv.out _ hHeld).mono ?_
              rintro e w5 ⟨rfl, k⟩
              go_wp2_with fail
              refine hK.out _ _ (hHeld.trans1 k) (fun hHeld => ?_)
              clear hK K
              try simp only [Act.put, List.setIfInBounds_toArray, List.set_cons_zero, List.set_cons_succ]
              clear k
              refine wpAnyH_ready (rs := [16]) (by kernel_rfl) (by simp) ?_
              refine AllReadyH.cons (o := _) rfl (fun K hK => ?_) ?_
              ·
                rw [if_pos (by rfl)]
                refine wp_bslice_w 25 24 (.tmp 85) rfl (fe s) rfl (feC s) ie (.agg z32) Try.underlying25 hie hiz 32 his (by omega) (by omega) (fill_sc _) ?_
                intro gx w6 hgx Bg k6
                change K (Act.put _ (some 86) _) _
                refine hK.out _ _ (hHeld.trans1 k6) (fun hHeld => ?_)
                clear hK K
                try simp only [Act.put, List.setIfInBounds_toArray, List.set_cons_zero, List.set_cons_succ]
                clear k6 hgx
                refine wpAnyH_ready (rs := [17]) (by kernel_rfl) (by simp) ?_
                refine AllReadyH.cons (o := _) rfl (fun K hK => ?_) ?_
                ·
                  go_simp
                  refine (canon_1 HRs.out Bg).mono ?_
                  rintro e w8 ⟨gc, oc, c, rfl, hrc, k⟩
                  go_wp2_with fail
                  refine hK.out _ _ (hHeld.trans1 k) (fun hHeld => ?_)
                  clear hK K
                  try simp only [Act.put, List.setIfInBounds_toArray, List.set_cons_zero, List.set_cons_succ]
                  clear k Bg
                  refine take_val (v := ?_) 18 (some 88) rfl (by kernel_rfl) (by kernel_rfl) (by kernel_rfl) (fun _ _ _ h => h) rfl rfl (fun w hSw => ?_) hHeld ?_
                  rotate_left
                  · (go_simp; try with_reducible rfl)
                  try simp only [Act.put, List.setIfInBounds_toArray, List.set_cons_zero, List.set_cons_succ]
                  refine wpAnyH_ready (rs := [19]) (by kernel_rfl) (by simp) ?_
                  refine AllReadyH.cons (o := _) rfl (fun K hK => ?_) ?_
                  ·
                    rw [if_pos (by rfl)]
                    refine wp_load_mid 24 _ rfl gc (oc) rfl (feL (ad s 0)) _ (hrc) Try.underlying24 rfl feInfo ?_
                    change K (Act.put _ (some 89) _) _
                    refine hK.out _ _ (hHeld) (fun hHeld => ?_)
                    clear hK K
                    try simp only [Act.put, List.setIfInBounds_toArray, List.set_cons_zero, List.set_cons_succ]
                    refine take_val (v := (.bool false)) 20 (some 90) rfl (by kernel_rfl) (by kernel_rfl) (by kernel_rfl) (fun _ _ _ h => h) rfl rfl (fun w hSw => ?_) hHeld ?_
                    · (go_simp; try with_reducible rfl)
                    try simp only [Act.put, List.setIfInBounds_toArray, List.set_cons_zero, List.set_cons_succ]
                    refine take_val (v := ?_) 21 (some 91) rfl (by kernel_rfl) (by kernel_rfl) (by kernel_rfl) (fun _ _ _ h => h) rfl rfl (fun w hSw => ?_) hHeld ?_
                    rotate_left
                    · (go_simp; try with_reducible rfl)
                    try simp only [Act.put, List.setIfInBounds_toArray, List.set_cons_zero, List.set_cons_succ]
                    refine wpAnyH_done (by kernel_rfl) ?_ _
                    clear hrc
                    go_wp2_with fail
                    go_meet
                    case rel => exact ⟨rfl, hHeld⟩
                  exact AllReadyH.nil
                exact AllReadyH.nil
              exact AllReadyH.nil
            refine AllReadyH.cons (o := _) rfl (fun K hK => ?_) ?_
            ·
              rw [if_pos (by rfl)]
              refine wp_bslice_w 25 24 (.tmp 85) rfl (fe s) rfl (feC s) ie (.agg z32) Try.underlying25 hie hiz 32 his (by omega) (by omega) (fill_sc _) ?_
              intro gx w6 hgx Bg k6
              change K (Act.put _ (some 86) _) _
              refine hK.out _ _ (hHeld.trans1 k6) (fun hHeld => ?_)
              clear hK K
              try simp only [Act.put, List.setIfInBounds_toArray, List.set_cons_zero, List.set_cons_succ]
              clear k6 hgx
              refine wpAnyH_ready (rs := [14]) (by kernel_rfl) (by simp) ?_
              refine AllReadyH.cons (o := _) rfl (fun K hK => ?_) ?_
              ·
                go_simp
                refine (HEv.out _ hHeld).mono ?_
                rintro e w5 ⟨rfl, k⟩
                go_wp2_with fail
                refine hK.out _ _ (hHeld.trans1 k) (fun hHeld => ?_)
                clear hK K
                try simp only [Act.put, List.setIfInBounds_toArray, List.set_cons_zero, List.set_cons_succ]
                replace Bg := Bg.chg k (by simp)
                clear k
                refine wpAnyH_ready (rs := [17]) (by kernel_rfl) (by simp) ?_
                refine AllReadyH.cons (o := _) rfl (fun K hK => ?_) ?_
                ·
                  go_simp
                  refine (canon_1 HRs.out Bg).mono ?_
                  rintro e w8 ⟨gc, oc, c, rfl, hrc, k⟩
                  go_wp2_with fail
                  refine hK.out _ _ (hHeld.trans1 k) (fun hHeld => ?_)
                  clear hK K
                  try simp only [Act.put, List.setIfInBounds_toArray, List.set_cons_zero, List.set_cons_succ]
                  clear k Bg
                  refine take_val (v := ?_) 18 (some 88) rfl (by kernel_rfl) (by kernel_rfl) (by kernel_rfl) (fun _ _ _ h => h) rfl rfl (fun w hSw => ?_) hHeld ?_
                  rotate_left
                  · (go_simp; try with_reducible rfl)
                  try simp only [Act.put, List.setIfInBounds_toArray, List.set_cons_zero, List.set_cons_succ]
                  refine wpAnyH_ready (rs := [19]) (by kernel_rfl) (by simp) ?_
                  refine AllReadyH.cons (o := _) rfl (fun K hK => ?_) ?_
                  ·
                    rw [if_pos (by rfl)]
                    refine wp_load_mid 24 _ rfl gc (oc) rfl (feL (ad s 0)) _ (hrc) Try.underlying24 rfl feInfo ?_
                    change K (Act.put _ (some 89) _) _
                    refine hK.out _ _ (hHeld) (fun hHeld => ?_)
                    clear hK K
                    try simp only [Act.put, List.setIfInBounds_toArray, List.set_cons_zero, List.set_cons_succ]
                    refine take_val (v := (.bool false)) 20 (some 90) rfl (by kernel_rfl) (by kernel_rfl) (by kernel_rfl) (fun _ _ _ h => h) rfl rfl (fun w hSw => ?_) hHeld ?_
                    · (go_simp; try with_reducible rfl)
                    try simp only [Act.put, List.setIfInBounds_toArray, List.set_cons_zero, List.set_cons_succ]
                    refine take_val (v := ?_) 21 (some 91) rfl (by kernel_rfl) (by kernel_rfl) (by kernel_rfl) (fun _ _ _ h => h) rfl rfl (fun w hSw => ?_) hHeld ?_
                    rotate_left
                    · (go_simp; try with_reducible rfl)
                    try simp only [Act.put, List.setIfInBounds_toArray, List.set_cons_zero, List.set_cons_succ]
                    refine wpAnyH_done (by kernel_rfl) ?_ _
                    clear hrc
                    go_wp2_with fail
                    go_meet
                    case rel => exact ⟨rfl, hHeld⟩
                  exact AllReadyH.nil
                exact AllReadyH.nil
              exact AllReadyH.nil
            exact AllReadyH.nil
          exact AllReadyH.nil
        case rest =>
        obtain ⟨rfl, k⟩ := hcut
        obtain ⟨w15, rfl⟩ : ∃ z, z = wc := ⟨wc, rfl⟩
        have C := C1.trans1 k
        replace S := S.chg k (by simp)
        have HEv2 : Hid (∀ W, Chg w15 W [] → Calls Try.prog 11 #[.slice (some ⟨g, 0, none⟩) n n, fe 0] W fun e w' => e = .returned (fe (ad s 0)) ∧ Chg W w' []) := fun W h => HEv.out W (k.trans1 h)
        clear k C1 Bk1 HEv HLP
        go_upto_region 15 with fail
        go_cut [12] (fun t wc => ∃ b : Bool, t = .bool b ∧ (b = true → M = n ∧ ev f 0 0 M = ad s 0) ∧ Chg w15 wc [])
        case first =>
          by_cases hM : (M : Int) = (n : Int)
          · have HM : Hid (M = n) := by show M = n; omega
            obtain ⟨q, hq⟩ : ∃ q, eqf (ev f 0 0 M) (ad s 0) = q := ⟨_, rfl⟩
            have HQ : Hid (eqf (ev f 0 0 M) (ad s 0) = q) := hq
            have hMb : ((M : Int) == (n : Int)) = true := by simp; omega
            go_wp2_with (refine gl_build (by rfl) 24 #[] rfl (feC 0) (by kernel_rfl) ?_)
            refine (Eval_s _ M f (by have := HB.out; omega) 0 r256_c0 _ (HLo.out.chg0 C)).mono ?_
            rintro e w5 ⟨rfl, k5⟩
            go_wp2_with (refine gl_build (by rfl) 24 #[] rfl (feC 0) (by kernel_rfl) ?_)
            refine (HEv2.out _ k5).mono ?_
            rintro e w6 ⟨rfl, k6⟩
            go_wp2_with fail
            go_meet
            case rel => exact ⟨_, rfl, fun h => ⟨HM.out, eqf_is (r256_rl (ev_rl _ _ _ _)) (r256_mod _) (HQ.out.trans h)⟩, k5.trans1 k6⟩
          · have hMb : ((M : Int) == (n : Int)) = false := by simp; omega
            go_wp2_with fail
            go_meet
            case rel => exact ⟨false, rfl, nofun, Chg.refl _ _⟩
        case rest =>
        obtain ⟨b0, rfl, hb0, k⟩ := hcut
        replace C := C.trans1 k
        replace S := S.chg k (by simp)
        have HB0 : Hid (b0 = true → M = n ∧ ev f 0 0 M = ad s 0 ∧ ∀ j, j < 0 → ev f (d j) 0 M = ad (y j) 0) := fun h => ⟨(hb0 h).1, (hb0 h).2, fun j hj => by omega⟩
        have HLP2 : Hid (∀ W, Sb W g n (cc (sfX d) (sfY s y) n) → Ls W (.slice (some ⟨g, 0, none⟩) n n) n p) := fun W h => by rw [← HPp.out]; exact h.ls (by have := HN.out; omega) (fun j _ => cc_r _ _ n j) (Nat.le_refl _)
        clear k hb0 HEv2
        go_wp2_with fail
        go_loopw [12, 13] (fun t12 t13 wr => ∃ (i : Nat) (b : Bool), i ≤ N ∧ t13 = .int .i64 (i : Int) ∧ t12 = .bool b ∧ (b = true → M = n ∧ ev f 0 0 M = ad s 0 ∧ ∀ j, j < i → ev f (d j) 0 M = ad (y j) 0) ∧ Sb wr g n (cc (sfX d) (sfY s y) n) ∧ Chg w wr []) (fun _ t13 _ => (N - intOf t13).toNat)
        case atStart => exact ⟨0, b0, Nat.zero_le _, rfl, rfl, HB0.out, S, C⟩
        case round =>
          clear S C HB0
          obtain ⟨i, b, hi, rfl, rfl, hbt, S, C⟩ := hrel
          have HBt : Hid (b = true → M = n ∧ ev f 0 0 M = ad s 0 ∧ ∀ j, j < i → ev f (d j) 0 M = ad (y j) 0) := hbt
          clear hbt
          by_cases h : i < N
          · have hI : (i : Int) < (N : Int) := by omega
            have hI0 : (0 : Int) ≤ (i : Int) := by omega
            have e1 : IntKind.i64.wrap ((i : Int) + 1) = (i : Int) + 1 := by have := HB.out; rw [IntKind.wrap_i64]; omega
            have HMs : Hid _ := mN N i h
            have HI : Hid (i < N) := h
            have HDi : Hid (1 ≤ d i ∧ d i ≤ 255) := HD.out i h
            have HRy : Hid (R256 (y i)) := HRy.out i h
            have HA1 : Hid (∀ W, Sb W g n (cc (sfX d) (sfY s y) n) → Calls Try.prog 13 #[.slice (some ⟨g, 0, none⟩) n n, .int .i64 (d i)] W fun e w' => e = .returned (.tuple #[fe (ad (y i) 0), .int .i64 0]) ∧ Chg W w' []) := fun W h => by
              have q := At_s _ n p (by have := HN.out; omega) (d i) W (HLP2.out W h)
              have e0 := HEP.out (i + 1) (by have := HI.out; have := HNn.out; omega)
              rw [sfX_s, sfY_s] at e0
              unfold atV atE at q
              rwa [okI_t HDi.out, if_pos rfl, if_pos rfl, e0] at q
            have HA2 : Hid (∀ W, Chg w W [] → Calls Try.prog 13 #[.slice po M co, .int .i64 (d i)] W fun e w' => e = .returned (.tuple #[fe (ev f (d i) 0 M), .int .i64 0]) ∧ Chg W w' []) := fun W h => by
              have q := At_s _ M f (by have := HB.out; omega) (d i) W (HLo.out.chg0 h)
              unfold atV atE at q
              rwa [okI_t HDi.out, if_pos rfl, if_pos rfl] at q
            obtain ⟨gp, o, rfl, hg, hF⟩ := HP.out i h
            have hF' : wr.rangeAt gp (o + i * 33) (.int .i64 (d i) :: feL (y i)) := rangeAt_chg hF hg C (by simp)
            have hID : wr.cell? ⟨gp, o + i * 33, none⟩ = some (.int .i64 (d i)) := by have := hF' 0 _ rfl; rwa [Nat.add_zero] at this
            have hVL0 : wr.rangeAt gp (o + i * 33 + 1) (feL (y i)) := fun j v hv => by
              have := hF' (j + 1) v (by rw [List.getElem?_cons_succ]; exact hv)
              rw [← this]; congr 2; omega
            have HGl0 : Hid (gp < wr.heap.size) := Nat.lt_of_lt_of_le hg C.size
            have HGw : Hid (gp < w.heap.size) := hg
            clear hF hg h hi hF'
            go_wp2_with fail
            refine (HA1.out _ S).mono ?_
            rintro e w3 ⟨rfl, k3⟩
            go_upto_region 20 with (first
              | (with_reducible refine alloc_w rfl 24 rfl (.agg z32) zeroSc z32 rfl ?_; intro yb w4 hyb By0 k4)
              | (refine store_w By0 rfl 24 _ _ (feC (ad (y i) 0)) rfl rfl rfl feInfo rfl (feC_one _) ?_; intro w5 By k5))
            have HYB : Hid (w.heap.size ≤ yb) := by have := C.size; have := k3.size; show w.heap.size ≤ yb; omega
            have HYS : Hid (¬ g ∈ [yb]) := by have := S.lt; have := k3.size; show ¬ g ∈ [yb]; simp; omega
            have HYP : Hid (¬ gp ∈ [yb]) := by have := HGw.out; have := HYB.out; show ¬ gp ∈ [yb]; simp; omega
            replace C := ((C.trans1 k3).trans1 k4).new k5 HYB.out
            replace S := ((S.chg k3 (by simp)).chg k4 (by simp)).chg k5 HYS.out
            have hL3 : gp < w3.heap.size := Nat.lt_of_lt_of_le HGl0.out k3.size
            have hL4 : gp < w4.heap.size := Nat.lt_of_lt_of_le hL3 k4.size
            have HGl5 : Hid (gp < w5.heap.size) := Nat.lt_of_lt_of_le hL4 k5.size
            replace hID := cell_chg (cell_chg (cell_chg hID HGl0.out k3 (by simp)) hL3 k4 (by simp)) hL4 k5 HYP.out
            have hVL5 := rangeAt_chg (rangeAt_chg (rangeAt_chg hVL0 HGl0.out k3 (by simp)) hL3 k4 (by simp)) hL4 k5 HYP.out
            clear k3 k4 k5 By0 hyb hL3 hL4 hVL0
            go_wp2_with fail
            refine (HA2.out _ C).mono ?_
            rintro e w6 ⟨rfl, k6⟩
            go_upto_region 21 with (first
              | (with_reducible refine alloc_w rfl 24 rfl (.agg z32) zeroSc z32 rfl ?_; intro zb w7 hzb Bz0 k7)
              | (refine store_w Bz0 rfl 24 _ _ (feC (ev f (d i) 0 M)) rfl rfl rfl feInfo rfl (feC_one _) ?_; intro wq Bz k8))
            have HZB : Hid (w.heap.size ≤ zb) := by have := C.size; have := k6.size; show w.heap.size ≤ zb; omega
            have HZS : Hid (¬ g ∈ [zb]) := by have := S.lt; have := k6.size; show ¬ g ∈ [zb]; simp; omega
            have HZY : Hid (¬ yb ∈ [zb]) := by have := By.lt; have := k6.size; show ¬ yb ∈ [zb]; simp; omega
            have HZP : Hid (¬ gp ∈ [zb]) := by have := HGw.out; have := HZB.out; show ¬ gp ∈ [zb]; simp; omega
            replace C := ((C.trans1 k6).trans1 k7).new k8 HZB.out
            replace S := ((S.chg k6 (by simp)).chg k7 (by simp)).chg k8 HZS.out
            replace By := ((By.chg k6 (by simp)).chg k7 (by simp)).chg k8 HZY.out
            have hL6 : gp < w6.heap.size := Nat.lt_of_lt_of_le HGl5.out k6.size
            have hL7 : gp < w7.heap.size := Nat.lt_of_lt_of_le hL6 k7.size
            have HGl : Hid (gp < wq.heap.size) := Nat.lt_of_lt_of_le hL7 k8.size
            have hVL := rangeAt_chg (rangeAt_chg (rangeAt_chg hVL5 HGl5.out k6 (by simp)) hL6 k7 (by simp)) hL7 k8 HZP.out
            clear k6 k7 k8 Bz0 hzb hL6 hL7 hVL5 HA1 HA2
            refine wp_region_held_drew (S := fun w' => Chg wq w' []) (by kernel_rfl) ((Chg.refl wq _).drew) (fun hHeld => ?_)
            refine take_load 0 (some 132) (feC (ad (y i) 0)) rfl (by kernel_rfl) (by kernel_rfl) (by kernel_rfl) (fun _ _ _ h => h) rfl rfl 24 _ rfl yb rfl 24 _ (fun w h => By.chg h (by simp)) Try.underlying24 rfl (by first | exact feInfo | kernel_rfl) hHeld ?_
            try simp only [Act.put, List.setIfInBounds_toArray, List.set_cons_zero, List.set_cons_succ]
            refine take_val (v := ?_) 1 (some 133) rfl (by kernel_rfl) (by kernel_rfl) (by kernel_rfl) (fun _ _ _ h => h) rfl rfl (fun w hSw => ?_) hHeld ?_
            rotate_left
            · (go_simp; try with_reducible rfl)
            try simp only [Act.put, List.setIfInBounds_toArray, List.set_cons_zero, List.set_cons_succ]
            refine take_val (v := ?_) 2 (some 134) rfl (by kernel_rfl) (by kernel_rfl) (by kernel_rfl) (fun _ _ _ h => h) rfl rfl (fun w hSw => ?_) hHeld ?_
            rotate_left
            · (go_simp; try with_reducible rfl)
            try simp only [Act.put, List.setIfInBounds_toArray, List.set_cons_zero, List.set_cons_succ]
            refine take_val (v := ?_) 3 (some 135) rfl (by kernel_rfl) (by kernel_rfl) (by kernel_rfl) (fun _ _ _ h => h) rfl rfl (fun w hSw => ?_) hHeld ?_
            rotate_left
            · (go_simp; try with_reducible rfl)
            try simp only [Act.put, List.setIfInBounds_toArray, List.set_cons_zero, List.set_cons_succ]
            refine take_val (v := ?_) 4 (some 136) rfl (by kernel_rfl) (by kernel_rfl) (by kernel_rfl) (fun _ _ _ h => h) rfl rfl (fun w hSw => ?_) hHeld ?_
            rotate_left
            · (go_simp; try with_reducible rfl)
            try simp only [Act.put, List.setIfInBounds_toArray, List.set_cons_zero, List.set_cons_succ]
            refine take_val (v := (.agg (feC (y i)))) 5 (some 137) rfl (by kernel_rfl) (by kernel_rfl) (by kernel_rfl) (fun _ _ _ h => h) rfl rfl (fun w hSw => ?_) hHeld ?_
            · exact exec_load_m w 24 _ rfl gp (o + i * 33 + 1) rfl (feL (y i)) _ (rangeAt_chg hVL HGl.out hSw (by simp)) Try.underlying24 rfl feInfo
            try simp only [Act.put, List.setIfInBounds_toArray, List.set_cons_zero, List.set_cons_succ]
            refine wpAnyH_ready (rs := [6]) (by kernel_rfl) (by simp) ?_
            refine AllReadyH.cons (o := _) rfl (fun K hK => ?_) ?_
            ·
              rw [if_pos (by rfl)]
              refine wp_bslice_w 25 24 (.tmp 137) rfl (fe (y i)) rfl (feC (y i)) ie (.agg z32) Try.underlying25 hie hiz 32 his (by omega) (by omega) (fill_sc _) ?_
              intro gx w6 hgx Bg k6
              change K (Act.put _ (some 138) _) _
              refine hK.out _ _ (hHeld.trans1 k6) (fun hHeld => ?_)
              clear hK K
              try simp only [Act.put, List.setIfInBounds_toArray, List.set_cons_zero, List.set_cons_succ]
              clear k6 hgx
              refine wpAnyH_ready (rs := [7]) (by kernel_rfl) (by simp) ?_
              refine AllReadyH.cons (o := _) rfl (fun K hK => ?_) ?_
              ·
                go_simp
                refine (canon_1 HRy.out Bg).mono ?_
                rintro e w8 ⟨gc, oc, c, rfl, hrc, k⟩
                go_wp2_with fail
                refine hK.out _ _ (hHeld.trans1 k) (fun hHeld => ?_)
                clear hK K
                try simp only [Act.put, List.setIfInBounds_toArray, List.set_cons_zero, List.set_cons_succ]
                clear k Bg
                refine take_val (v := ?_) 8 (some 140) rfl (by kernel_rfl) (by kernel_rfl) (by kernel_rfl) (fun _ _ _ h => h) rfl rfl (fun w hSw => ?_) hHeld ?_
                rotate_left
                · (go_simp; try with_reducible rfl)
                try simp only [Act.put, List.setIfInBounds_toArray, List.set_cons_zero, List.set_cons_succ]
                refine wpAnyH_ready (rs := [9]) (by kernel_rfl) (by simp) ?_
                refine AllReadyH.cons (o := _) rfl (fun K hK => ?_) ?_
                ·
                  rw [if_pos (by rfl)]
                  refine wp_load_mid 24 _ rfl gc (oc) rfl (feL (ad (y i) 0)) _ (hrc) Try.underlying24 rfl feInfo ?_
                  change K (Act.put _ (some 141) _) _
                  refine hK.out _ _ (hHeld) (fun hHeld => ?_)
                  clear hK K
                  try simp only [Act.put, List.setIfInBounds_toArray, List.set_cons_zero, List.set_cons_succ]
                  refine take_val (v := (.bool false)) 10 (some 142) rfl (by kernel_rfl) (by kernel_rfl) (by kernel_rfl) (fun _ _ _ h => h) rfl rfl (fun w hSw => ?_) hHeld ?_
                  · (go_simp; try with_reducible rfl)
                  try simp only [Act.put, List.setIfInBounds_toArray, List.set_cons_zero, List.set_cons_succ]
                  refine wpAnyH_done (by kernel_rfl) ?_ _
                  replace C := C.trans1 hHeld
                  replace By := By.chg hHeld (by simp)
                  replace Bz := Bz.chg hHeld (by simp)
                  replace S := S.chg hHeld (by simp)
                  clear hHeld hrc hVL hID
                  cases b
                  · go_wp2_with fail
                    go_roundw
                    case rel => exact ⟨i + 1, false, HI.out, by go_num, rfl, nofun, S, C⟩
                    case measure => exact HMs.out
                  · obtain ⟨q, hq⟩ : ∃ q, eqf (ev f (d i) 0 M) (ad (y i) 0) = q := ⟨_, rfl⟩
                    have HQ : Hid (eqf (ev f (d i) 0 M) (ad (y i) 0) = q) := hq
                    go_wp2_with (first
                      | (with_reducible refine load_g Bz (.tmp 16) ?_ ?_ ?_ ?_
                         · rfl
                         · rfl
                         · rfl)
                      | (with_reducible refine load_g By (.tmp 14) ?_ ?_ ?_ ?_
                         · rfl
                         · rfl
                         · rfl))
                    go_roundw
                    case rel => exact ⟨i + 1, q, HI.out, by go_num, rfl, fun h => ⟨(HBt.out rfl).1, (HBt.out rfl).2.1, fun j hj => by
                      by_cases e : j = i
                      · subst e
                        rw [h] at HQ
                        exact eqf_is (r256_rl (ev_rl _ _ _ _)) (r256_mod _) HQ.out
                      · exact (HBt.out rfl).2.2 j (by omega)⟩, S, C⟩
                    case measure => exact HMs.out
                exact AllReadyH.nil
              exact AllReadyH.nil
            exact AllReadyH.nil
          · obtain rfl : N = i := by omega
            have hI : ¬ (N : Int) < (N : Int) := by omega
            clear h hi
            cases b
            · go_wp2_with fail
              go_ret
              exact ⟨rfl, C⟩
            · have hall := sf_all ⟨(HBt.out rfl).1.trans HNn.out.symm, (HBt.out rfl).2.1, (HBt.out rfl).2.2⟩
              have HM : Hid (M = n) := (HBt.out rfl).1
              rw [HNn.out] at hall
              have HC : Hid (∀ j, j < n → ad ((f j : Nat) : Int) 0 = ((p j : Nat) : Int)) := fun j hj => by
                rw [ev_only (HNn.out ▸ sf_ne HID.out) f hall j hj, ← HPp.out, nT_c _ _ (cc_r _ _ n j).1]
              clear hall
              go_wp2_with fail
              refine (canon_s _ M f (by have := HB.out; omega) _ (HLo.out.chg0 C)).mono ?_
              rintro e w5 ⟨r, rfl, O, k⟩
              have L1 : Ls w5 r n p := by
                have q := cn_ls (h := p) O (fun j hj => HC.out j (by have := HM.out; omega))
                rwa [HM.out] at q
              have L2 := HLP2.out w5 (S.chg k (by simp))
              replace C := C.trans1 k
              clear k O S
              go_wp2_with fail
              refine (SameScalars_t _ _ n p (by have := HN.out; omega) w5 L1 L2).mono ?_
              rintro e w6 ⟨rfl, k⟩
              go_wp2_with fail
              go_ret
              exact ⟨rfl, C.trans1 k⟩
      · go_wp2_with fail
        go_ret
        exact ⟨rfl, C1⟩
end Go.Proofs.Ytcagkcglmcafgaa
