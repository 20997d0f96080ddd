/- Joined: RRe1, RRe2, RRe3. -/
import Derived.Test.YtemjpibmefggnaaGreatMgH
import Derived.Test.YtemjpibmefggnaaGreatRWt
import Derived.Test.YtemjpibmefggnaaGreatMgQ
/- rimeref07.of, values, through, Interpolate. -/
set_option linter.unusedVariables false
set_option linter.unusedSimpArgs false
set_option linter.unnecessarySimpa false
namespace Go.Proofs.YtemjpibmefggnaaGreat
open Go.RowKit N

theorem Oi.ilL {w : World} {base : Nat} {v : Value} {d : Nat → Int} {N : Nat} (h : Oi w base v (liL d N)) : Il w v N d := by
  have q := OwnR.rl h
  rw [liL_len] at q
  rcases q.2 with h2 | ⟨g, o, cap, e, h1, h2, h3, h4⟩
  · exact Or.inl h2
  · refine Or.inr ⟨g, o, cap, e, h1, h2, h3, fun i hi => ?_⟩
    have := h4 i hi 0 (.int .i64 (d i)) (by unfold oI; rw [liL_get _ _ _ hi]; rfl)
    rwa [Nat.mul_one, Nat.add_zero] at this
set_option maxHeartbeats 8000000 in
set_option maxRecDepth 100000 in
theorem of_r (v : Value) (N : Nat) (d y : Nat → Int) (hN : N ≤ 4398046511000) (w : World) (hL : Hl w v N d y) :
    Calls Tryz.prog 73 #[v] w fun e w' => ∃ r, e = .returned r ∧ Oi w' w.heap.size r (liL d N) ∧ Chg w w' [] := by
  obtain ⟨p, cp, rfl, hp⟩ := hL.1.form
  have HP : Hid (∀ i, i < N → ∃ g o, p = some ⟨g, o, none⟩ ∧ g < w.heap.size ∧ w.rangeAt g (o + i * 33) (hF d y i)) := hp
  have HN : Hid (N ≤ 4398046511000) := hN
  obtain ⟨ii, hii, hizz, hiss, _⟩ := intRowS
  have O0 : Oi w w.heap.size (.slice none 0 0) (liL d 0) := Oi.nil _ _
  clear hp hL hN
  go_enter Tryz.func73, Tryz.ntmps73
  go_wp2_with fail
  go_loopw [3, 4] (fun t3 t wr => ∃ i : Nat, i ≤ N ∧ t = .int .i64 (i : Int) ∧ Oi wr w.heap.size t3 (liL d i) ∧ Chg w wr []) (fun _ t _ => (N - intOf t).toNat)
  case atStart => exact ⟨0, Nat.zero_le _, rfl, O0, Chg.refl w []⟩
  case round =>
    clear O0
    obtain ⟨i, hi, rfl, O, C⟩ := hrel
    by_cases h : i < N
    · have hI : (i : Int) < (N : Int) := by omega
      have hI0 : (0 : Int) ≤ (i : Int) := by omega
      have e1 : IntKind.i64.wrap ((i : Int) + 1) = (i : Int) + 1 := by have := HN.out; rw [IntKind.wrap_i64]; omega
      have HMs : Hid _ := mN N i h
      have HI : Hid (i < N) := h
      obtain ⟨gp, o, rfl, hg, hF⟩ := HP.out i h
      have hF' : wr.rangeAt gp (o + i * 33) (.int .i64 (d i) :: feL (y i)) := rangeAt_chg hF hg C (by simp)
      have hID : wr.cell? ⟨gp, o + i * 33, none⟩ = some (.int .i64 (d i)) := by have := hF' 0 _ rfl; rwa [Nat.add_zero] at this
      have HOB : Hid (∀ k ∈ ob u3, w.heap.size ≤ k) := fun k hk => (ob_own O k hk).1
      have HCz : Hid (w.heap.size ≤ wr.heap.size) := C.size
      clear hF hg h hi hF'
      go_wp2_with (first
        | (with_reducible refine bslice_w ?_ 25 3 (.tmp 16) ?_ (.int .i64 (d i)) ?_ #[.int .i64 (d i)] ii (.int .i64 0) Tryz.underlying25 hii hizz 1 hiss ?_ ?_ (fill_int (d i)) ?_
           · rfl
           · rfl
           · rfl
           · omega
           · omega
           intro gx w2 hgx Bg k2)
        | (with_reducible refine append_oi ?_ (.tmp 11) (.tmp 17) ?_ w.heap.size u3 gx (liL d i) (d i) ?_ ?_ (O.chg k2) Bg ?_ ?_ ?_
           · rfl
           · rfl
           · rfl
           · rfl
           · rw [liL_len]; have := HN.out; have := HI.out; omega
           · have := HCz.out; have := k2.size; omega
           intro v7 wq O7 k7))
      replace C := (C.trans1 k2).trans k7 (fun i hi => Or.inr (HOB.out i hi))
      rw [← liL_s] at O7
      clear O k2 k7 Bg hgx hID
      go_roundw
      case rel => exact ⟨i + 1, HI.out, by go_num, O7, C⟩
      case measure => exact HMs.out
    · obtain rfl : N = i := by omega
      have hI : ¬ (N : Int) < (N : Int) := by omega
      go_wp2_with fail
      go_ret
      exact ⟨_, rfl, O, C⟩
set_option maxHeartbeats 8000000 in
set_option maxRecDepth 100000 in
theorem values_r (v : Value) (N : Nat) (d y : Nat → Int) (hN : N ≤ 1000000) (w : World) (hL : Hl w v N d y) :
    Calls Tryz.prog 75 #[v] w fun e w' => ∃ r, e = .returned r ∧ Os w' w.heap.size r (liL (rd0 y) N) ∧ Chg w w' [] := by
  have HRY : Hid (∀ j, j < N → R256 (y j)) := hL.2
  obtain ⟨p, cp, rfl, hp⟩ := hL.1.form
  have HP : Hid (∀ i, i < N → ∃ g o, p = some ⟨g, o, none⟩ ∧ g < w.heap.size ∧ w.rangeAt g (o + i * 33) (hF d y i)) := hp
  have HN : Hid (N ≤ 1000000) := hN
  obtain ⟨ie, hie, hiz, his, hib⟩ := scRowL
  have O0 : Os w w.heap.size (.slice none 0 0) (liL (rd0 y) 0) := OwnR.nil _ _ _ _ _
  clear hp hL hN
  go_enter Tryz.func75, Tryz.ntmps75
  go_wp2_with fail
  go_loopw [3, 4] (fun t3 t wr => ∃ i : Nat, i ≤ N ∧ t = .int .i64 (i : Int) ∧ Os wr w.heap.size t3 (liL (rd0 y) i) ∧ Chg w wr []) (fun _ t _ => (N - intOf t).toNat)
  case atStart => exact ⟨0, Nat.zero_le _, rfl, O0, Chg.refl w []⟩
  case round =>
    clear O0
    obtain ⟨i, hi, rfl, O, C⟩ := hrel
    by_cases h : i < N
    · have hI : (i : Int) < (N : Int) := by omega
      have hI0 : (0 : Int) ≤ (i : Int) := by omega
      have e1 : IntKind.i64.wrap ((i : Int) + 1) = (i : Int) + 1 := by have := HN.out; rw [IntKind.wrap_i64]; omega
      have HMs : Hid _ := mN N i h
      have HI : Hid (i < N) := h
      have HRy : Hid (R256 (y i)) := HRY.out i h
      obtain ⟨gp, o, rfl, hg, hF⟩ := HP.out i h
      have hF' : wr.rangeAt gp (o + i * 33) (.int .i64 (d i) :: feL (y i)) := rangeAt_chg hF hg C (by simp)
      have hVL : wr.rangeAt gp (o + i * 33 + 1) (feL (y i)) := fun j v hv => by
        have := hF' (j + 1) v (by rw [List.getElem?_cons_succ]; exact hv)
        rw [← this]; congr 2; omega
      have HOB : Hid (∀ k ∈ ob u3, w.heap.size ≤ k) := fun k hk => (ob_own O k hk).1
      clear hF hg h hi hF'
      go_wp2_with (first
        | (with_reducible refine load_sc ?_ (.tmp 15) ?_ gp (o + i * 33 + 1) (y i) ?_ hVL ?_
           · rfl
           · rfl
           · rfl)
        | (refine gl_build (by rfl) 24 #[] rfl (feC 0) (by kernel_rfl) ?_))
      refine (Add_q _ _ HRy.out r256_c0 _).mono ?_
      rintro e w1 ⟨rfl, k1⟩
      replace C := C.trans1 k1
      have O1 : Os w1 w.heap.size u3 (liL (rd0 y) i) := O.chg k1
      have HCz : Hid (w.heap.size ≤ w1.heap.size) := C.size
      clear k1 O hVL
      go_wp2_with (first
        | (with_reducible refine bslice_w ?_ 22 24 (.tmp 18) ?_ (fe (ad (y i) 0)) ?_ (feC (ad (y i) 0)) ie (.agg z32) Tryz.underlying22 hie hiz 32 his ?_ ?_ (fill_sc _) ?_
           · rfl
           · rfl
           · rfl
           · omega
           · omega
           intro gx w2 hgx Bg k2)
        | (with_reducible refine append_os ?_ (.tmp 11) (.tmp 19) ?_ w.heap.size u3 gx (liL (rd0 y) i) (ad (y i) 0) ?_ ?_ (O1.chg k2) Bg ?_ ?_ ?_
           · rfl
           · rfl
           · rfl
           · rfl
           · rw [liL_len]; have := HN.out; have := HI.out; omega
           · have := HCz.out; have := k2.size; omega
           intro v7 w7 O7 k7))
      replace C := (C.trans1 k2).trans k7 (fun i hi => Or.inr (HOB.out i hi))
      replace O7 : Os w7 w.heap.size v7 (liL (rd0 y) (i + 1)) := by rw [liL_s]; exact O7
      clear k2 k7 O1 Bg hgx
      go_roundw
      case rel => exact ⟨i + 1, HI.out, by go_num, O7, C⟩
      case measure => exact HMs.out
    · obtain rfl : N = i := by omega
      have hI : ¬ (N : Int) < (N : Int) := by omega
      go_wp2_with fail
      go_ret
      exact ⟨_, rfl, O, C⟩
theorem wsum_rd0 (x : Int) (d y : Nat → Int) (N : Nat) : ∀ k, wsum x d (rd0 y) N k = wsum x d y N k
  | 0 => rfl
  | k + 1 => by
    show ma (wtv x d N k) (rd0 y k) (wsum x d (rd0 y) N k) = ma (wtv x d N k) (y k) (wsum x d y N k)
    rw [wsum_rd0 x d y N k]
    unfold ma rd0 ad
    rw [Int.add_zero, Int.add_emod, Int.mul_emod, Int.emod_emod_of_dvd _ (Int.dvd_refl L), ← Int.mul_emod, ← Int.add_emod]
set_option maxHeartbeats 16000000 in
set_option maxRecDepth 100000 in
theorem through_r (vx vy : Value) (N : Nat) (d Y : Nat → Int) (hd : idE d N = 0) (hY : ∀ j, j < N → R256 (Y j)) (x : Int) (rx : R256 x) (w : World) (hLx : Ls w vx N (nT d)) (hLy : Ls w vy N (nT Y)) :
    Calls Tryz.prog 74 #[vx, vy, fe x] w fun e w' => e = .returned (fe (wsum x d Y N N)) ∧ Chg w w' [] := by
  have HLx : Hid (Ls w vx N (nT d)) := hLx
  obtain ⟨px, cx, rfl, _⟩ := hLx.range
  obtain ⟨py, cy, rfl, hpy⟩ := hLy.range
  have HPy : Hid (∀ i, i < N → ∃ g o, py = some ⟨g, o, none⟩ ∧ g < w.heap.size ∧ w.rangeAt g (o + i * 32) (feL (Y i))) := fun i hi => by
    obtain ⟨g, o, h1, h2, h3⟩ := hpy i hi
    rw [nT_c _ _ (hY i hi).1] at h3
    exact ⟨g, o, h1, h2, h3⟩
  have HRY : Hid (∀ j, j < N → R256 (Y j)) := hY
  have HRx : Hid (R256 x) := rx
  have HN : Hid (N ≤ 255) := idE_len hd
  have HRd : Hid (∀ j, j < N → R256 (d j)) := fun j hj => by have := (idE_zero hd).1 j hj; unfold R256; omega
  have HIE : Hid (idE d N = 0) := hd
  clear hpy hLx hLy hY rx hd
  go_enter Tryz.func74, Tryz.ntmps74
  go_upto_region 1 with (first
    | (with_reducible refine alloc_w rfl 24 rfl (.agg z32) zeroSc z32 rfl ?_; intro rb w2 hrb Br k2)
    | (refine box_w rfl 24 _ rfl (feC x) rfl ?_; intro xb w1 hxb Bx k1))
  have C : Chg w w2 [] := k1.trans1 k2
  have HRB : Hid (w.heap.size ≤ rb) := by have := k1.size; show w.heap.size ≤ rb; omega
  replace Bx := Bx.chg k2 (by simp)
  clear k1 k2 hxb hrb
  go_upto_region 2 with (with_reducible refine alloc_w rfl 24 rfl (.agg z32) zeroSc z32 rfl ?_; intro sb w3 hsb Bs0 k3)
  have HSB : Hid (w.heap.size ≤ sb) := by have := C.size; show w.heap.size ≤ sb; omega
  have HXS : Hid (¬ xb ∈ [sb]) := by have := Bx.lt; show ¬ xb ∈ [sb]; simp; omega
  have HRS : Hid (¬ rb ∈ [sb]) := by have := Br.lt; show ¬ rb ∈ [sb]; simp; omega
  have Bs : Blk w3 sb (feC (wsum x d Y N 0)) 24 := Bs0.to z32_ws
  replace C := C.trans1 k3
  replace Bx := Bx.chg k3 (by simp)
  replace Br := Br.chg k3 (by simp)
  clear k3 hsb Bs0
  go_wp2_with fail
  go_loopw [8] (fun t wr => ∃ i : Nat, i ≤ N ∧ t = .int .i64 (i : Int) ∧ Blk wr sb (feC (wsum x d Y N i)) 24 ∧ Blk wr xb (feC x) 24 ∧ Blk wr rb z32 24 ∧ Chg w wr []) (fun t _ => (N - intOf t).toNat)
  case atStart => exact ⟨0, Nat.zero_le _, rfl, Bs, Bx, Br, C⟩
  case round =>
    clear Bs Bx Br C
    obtain ⟨i, hi, rfl, Bs, Bx, Br, C⟩ := hrel
    by_cases h : i < N
    · have hI : (i : Int) < (N : Int) := by omega
      have hI0 : (0 : Int) ≤ (i : Int) := by omega
      have e1 : IntKind.i64.wrap ((i : Int) + 1) = (i : Int) + 1 := by have := HN.out; rw [IntKind.wrap_i64]; omega
      have HMs : Hid _ := mN N i h
      have HI : Hid (i < N) := h
      have HRy : Hid (R256 (Y i)) := HRY.out i h
      have HWt : Hid (∀ W, Chg w W [] → Calls Tryz.prog 66 #[.slice px N cx, .int .i64 (i : Int), fe x] W fun e w' => e = .returned (fe (wtv x d N i)) ∧ Chg W w' []) := fun W hc => by
        have q := weight_r _ N d HRd.out (by have := HN.out; omega) i HI.out x HRx.out (by rw [tpv_gpv HIE.out HI.out]; exact gpv_ne HIE.out HI.out) W (HLx.out.chg0 hc)
        rwa [rwv_wtv HIE.out x HI.out] at q
      obtain ⟨gy, oy, rfl, hgy, hFy⟩ := HPy.out i h
      have hY' := rangeAt_chg hFy hgy C (by simp)
      have HGy : Hid (gy < wr.heap.size) := Nat.lt_of_lt_of_le hgy C.size
      have HGS : Hid (¬ gy ∈ [sb]) := by have := HSB.out; show ¬ gy ∈ [sb]; simp; omega
      have HK : Hid (∀ {W}, Chg wr W [sb] → Chg w W []) := fun {W} hW => C.new hW HSB.out
      clear hFy hgy h hi
      go_wp2_with fail
      refine wp_region_held_drew (S := fun w' => Chg wr w' [sb]) (by kernel_rfl) ((Chg.refl wr _).drew) (fun hHeld => ?_)
      replace Bs : Blk wr.drew sb (feC (wsum x d Y N i)) 24 := Bs
      refine take_val (v := ?_) 0 (some 15) rfl (by kernel_rfl) (by kernel_rfl) (by kernel_rfl) (fun _ _ _ h => h) rfl rfl (fun w hSw => ?_) hHeld ?_
      rotate_left
      · (go_simp; try with_reducible rfl)
      try simp only [Act.put, List.setIfInBounds_toArray, List.set_cons_zero, List.set_cons_succ]
      refine take_val (v := ?_) 1 (some 16) rfl (by kernel_rfl) (by kernel_rfl) (by kernel_rfl) (fun _ _ _ h => h) rfl rfl (fun w hSw => ?_) hHeld ?_
      rotate_left
      · (go_simp; try with_reducible rfl)
      try simp only [Act.put, List.setIfInBounds_toArray, List.set_cons_zero, List.set_cons_succ]
      refine take_load 2 (some 17) (feC x) rfl (by kernel_rfl) (by kernel_rfl) (by kernel_rfl) (fun _ _ _ h => h) rfl rfl 24 _ rfl xb rfl 24 _ (fun w h => Bx.chg h HXS.out) Tryz.underlying24 rfl (by first | exact feInfo | kernel_rfl) hHeld ?_
      try simp only [Act.put, List.setIfInBounds_toArray, List.set_cons_zero, List.set_cons_succ]
      refine take_val (v := ?_) 4 (some 19) rfl (by kernel_rfl) (by kernel_rfl) (by kernel_rfl) (fun _ _ _ h => h) rfl rfl (fun w hSw => ?_) hHeld ?_
      rotate_left
      · (go_simp; try with_reducible rfl)
      try simp only [Act.put, List.setIfInBounds_toArray, List.set_cons_zero, List.set_cons_succ]
      refine take_val (v := ?_) 5 (some 20) rfl (by kernel_rfl) (by kernel_rfl) (by kernel_rfl) (fun _ _ _ h => h) rfl rfl (fun w hSw => ?_) hHeld ?_
      rotate_left
      · (go_simp; try with_reducible rfl)
      try simp only [Act.put, List.setIfInBounds_toArray, List.set_cons_zero, List.set_cons_succ]
      refine take_val (v := ?_) 6 (some 21) rfl (by kernel_rfl) (by kernel_rfl) (by kernel_rfl) (fun _ _ _ h => h) rfl rfl (fun w hSw => ?_) hHeld ?_
      rotate_left
      · (go_simp; try with_reducible rfl)
      try simp only [Act.put, List.setIfInBounds_toArray, List.set_cons_zero, List.set_cons_succ]
      refine take_val (v := (.agg (feC (Y i)))) 7 (some 22) rfl (by kernel_rfl) (by kernel_rfl) (by kernel_rfl) (fun _ _ _ h => h) rfl rfl (fun w hSw => ?_) hHeld ?_
      · exact exec_load_m w 24 _ rfl gy (oy + i * 32) rfl (feL (Y i)) _ (rangeAt_chg hY' HGy.out hSw HGS.out) Tryz.underlying24 rfl feInfo
      try simp only [Act.put, List.setIfInBounds_toArray, List.set_cons_zero, List.set_cons_succ]
      refine wpAnyH_ready (rs := [3, 8]) (by kernel_rfl) (by simp) ?_
      refine AllReadyH.cons (o := _) rfl (fun K hK => ?_) ?_
      ·
        go_simp
        refine (HWt.out _ (HK.out hHeld)).mono ?_
        rintro e w5 ⟨rfl, kk⟩
        replace Bs := Bs.chg kk (by simp)
        go_wp2_with fail
        refine hK.out _ _ (hHeld.trans1 kk.wide) (fun hHeld => ?_)
        clear hK K
        try simp only [Act.put, List.setIfInBounds_toArray, List.set_cons_zero, List.set_cons_succ]
        clear kk
        refine wpAnyH_ready (rs := [8]) (by kernel_rfl) (by simp) ?_
        refine AllReadyH.cons (o := _) rfl (fun K hK => ?_) ?_
        ·
          rw [if_pos (by rfl)]
          refine wp_load_mid 24 _ rfl sb (0) rfl (feL (wsum x d Y N i)) _ (blk_range Bs) Tryz.underlying24 rfl feInfo ?_
          refine hK.out _ _ (hHeld) (fun hHeld => ?_)
          clear hK K
          try simp only [Act.put, List.setIfInBounds_toArray, List.set_cons_zero, List.set_cons_succ]
          refine wpAnyH_ready (rs := [9]) (by kernel_rfl) (by simp) ?_
          refine AllReadyH.cons (o := _) rfl (fun K hK => ?_) ?_
          ·
            go_simp
            refine (MulAdd_q _ _ _ (r256_rl (wtv_rl x d N i)) HRy.out (r256_rl (wsum_rl x d Y N i)) _).mono ?_
            rintro e w5 ⟨rfl, kk⟩
            replace Bs := Bs.chg kk (by simp)
            go_wp2_with fail
            refine hK.out _ _ (hHeld.trans1 kk.wide) (fun hHeld => ?_)
            clear hK K
            try simp only [Act.put, List.setIfInBounds_toArray, List.set_cons_zero, List.set_cons_succ]
            clear kk
            refine wpAnyH_ready (rs := [10]) (by kernel_rfl) (by simp) ?_
            refine AllReadyH.cons (o := _) rfl (fun K hK => ?_) ?_
            ·
              rw [if_pos (by rfl)]
              refine wp_store_w Bs 24 _ _ (feC (wsum x d Y N (i + 1))) rfl rfl rfl feInfo rfl (feC_one _) ?_
              intro w8 B8 k8
              refine hK.out _ _ (hHeld.trans1 k8) (fun hHeld => ?_)
              clear hK K
              try simp only [Act.put, List.setIfInBounds_toArray, List.set_cons_zero, List.set_cons_succ]
              refine wpAnyH_done (by kernel_rfl) ?_ _
              replace C := C.new hHeld HSB.out
              replace Bx := Bx.chg hHeld HXS.out
              replace Br := Br.chg hHeld HRS.out
              clear Bs k8 hHeld hY'
              go_wp2_with fail
              go_roundw
              case rel => exact ⟨i + 1, HI.out, by go_num, B8, Bx, Br, C⟩
              case measure => exact HMs.out
            exact AllReadyH.nil
          exact AllReadyH.nil
        exact AllReadyH.nil
      refine AllReadyH.cons (o := _) rfl (fun K hK => ?_) ?_
      ·
        rw [if_pos (by rfl)]
        refine wp_load_mid 24 _ rfl sb (0) rfl (feL (wsum x d Y N i)) _ (blk_range Bs) Tryz.underlying24 rfl feInfo ?_
        refine hK.out _ _ (hHeld) (fun hHeld => ?_)
        clear hK K
        try simp only [Act.put, List.setIfInBounds_toArray, List.set_cons_zero, List.set_cons_succ]
        refine wpAnyH_ready (rs := [3]) (by kernel_rfl) (by simp) ?_
        refine AllReadyH.cons (o := _) rfl (fun K hK => ?_) ?_
        ·
          go_simp
          refine (HWt.out _ (HK.out hHeld)).mono ?_
          rintro e w5 ⟨rfl, kk⟩
          replace Bs := Bs.chg kk (by simp)
          go_wp2_with fail
          refine hK.out _ _ (hHeld.trans1 kk.wide) (fun hHeld => ?_)
          clear hK K
          try simp only [Act.put, List.setIfInBounds_toArray, List.set_cons_zero, List.set_cons_succ]
          clear kk
          refine wpAnyH_ready (rs := [9]) (by kernel_rfl) (by simp) ?_
          refine AllReadyH.cons (o := _) rfl (fun K hK => ?_) ?_
          ·
            go_simp
            refine (MulAdd_q _ _ _ (r256_rl (wtv_rl x d N i)) HRy.out (r256_rl (wsum_rl x d Y N i)) _).mono ?_
            rintro e w5 ⟨rfl, kk⟩
            replace Bs := Bs.chg kk (by simp)
            go_wp2_with fail
            refine hK.out _ _ (hHeld.trans1 kk.wide) (fun hHeld => ?_)
            clear hK K
            try simp only [Act.put, List.setIfInBounds_toArray, List.set_cons_zero, List.set_cons_succ]
            clear kk
            refine wpAnyH_ready (rs := [10]) (by kernel_rfl) (by simp) ?_
            refine AllReadyH.cons (o := _) rfl (fun K hK => ?_) ?_
            ·
              rw [if_pos (by rfl)]
              refine wp_store_w Bs 24 _ _ (feC (wsum x d Y N (i + 1))) rfl rfl rfl feInfo rfl (feC_one _) ?_
              intro w8 B8 k8
              refine hK.out _ _ (hHeld.trans1 k8) (fun hHeld => ?_)
              clear hK K
              try simp only [Act.put, List.setIfInBounds_toArray, List.set_cons_zero, List.set_cons_succ]
              refine wpAnyH_done (by kernel_rfl) ?_ _
              replace C := C.new hHeld HSB.out
              replace Bx := Bx.chg hHeld HXS.out
              replace Br := Br.chg hHeld HRS.out
              clear Bs k8 hHeld hY'
              go_wp2_with fail
              go_roundw
              case rel => exact ⟨i + 1, HI.out, by go_num, B8, Bx, Br, C⟩
              case measure => exact HMs.out
            exact AllReadyH.nil
          exact AllReadyH.nil
        exact AllReadyH.nil
      exact AllReadyH.nil
    · obtain rfl : N = i := by omega
      have hI : ¬ (N : Int) < (N : Int) := by omega
      clear h hi
      go_wp2_with (first
        | (with_reducible refine load_b Bs 24 (.tmp 7) Tryz.underlying24 ?_ ?_ ?_ ?_ ?_ ?_
           · rfl
           · rfl
           · rfl
           · rfl
           · exact feInfo)
        | (refine store_w Br rfl 24 _ _ (feC (wsum x d Y N N)) rfl rfl rfl feInfo rfl (feC_one _) ?_; intro w7 B7 k7))
      exact bodyPost_ret (results_cell_row Tryz.results74 _ _ rb 24 (feC (wsum x d Y N N)) (0, 0) _ rfl B7 Tryz.underlying24 rfl feInfo) rfl ⟨rfl, C.new k7 HRB.out⟩
set_option maxHeartbeats 16000000 in
set_option maxRecDepth 100000 in
theorem Interpolate_r (v : Value) (N : Nat) (d y : Nat → Int) (hN : N ≤ 4398046511000) (x : Int) (rx : R256 x) (w : World) (hL : Hl w v N d y) :
    Calls Tryz.prog 27 #[v, fe x] w fun e w' => e = .returned (.tuple #[fe (ipR x d y N), .int .i64 (idR d N)]) ∧ Chg w w' [] := by
  have HL : Hid (Hl w v N d y) := hL
  have HRx : Hid (R256 x) := rx
  have HNb : Hid (N ≤ 4398046511000) := hN
  obtain ⟨p, cp, rfl, _⟩ := hL.1.form
  obtain ⟨E, hE⟩ : ∃ E, idR d N = E := ⟨_, rfl⟩
  rw [hE]
  have HE : Hid (idR d N = E) := hE
  obtain ⟨V, hV⟩ : ∃ V, ipR x d y N = V := ⟨_, rfl⟩
  have HV0 : Hid (V = if E = 0 then wsum x d y N N else 0) := by show V = _; rw [← hV, ← hE]; rfl
  rw [hV]
  clear hL rx hN hE hV
  go_enter Tryz.func27, Tryz.ntmps27
  go_wp2_with (first
    | (with_reducible refine alloc_w rfl 24 rfl (.agg z32) zeroSc z32 rfl ?_; intro rb w2 hrb Br k2)
    | (refine box_w rfl 24 _ rfl (feC x) rfl ?_; intro xb w1 hxb Bx k1))
  have C : Chg w w2 [] := k1.trans1 k2
  have HRB : Hid (w.heap.size ≤ rb) := by have := k1.size; show w.heap.size ≤ rb; omega
  have HXR : Hid (¬ xb ∈ [rb]) := by have := Bx.lt; show ¬ xb ∈ [rb]; simp; omega
  replace Bx := Bx.chg k2 (by simp)
  clear k1 k2 hxb hrb
  refine (of_r _ N d y HNb.out _ (HL.out.chg C)).mono ?_
  rintro e w3 ⟨r0, rfl, O0, k3⟩
  replace C := C.trans1 k3
  replace Bx := Bx.chg k3 (by simp)
  replace Br := Br.chg k3 (by simp)
  have hIs := IDs_r _ N d (by have := HNb.out; omega) w3 O0.ilL
  rw [HE.out] at hIs
  clear k3 O0
  go_wp2_with fail
  refine hIs.mono ?_
  rintro e wr ⟨rfl, k4⟩
  replace C := C.trans1 k4
  replace Bx := Bx.chg k4 (by simp)
  replace Br := Br.chg k4 (by simp)
  clear k4 hIs
  by_cases h : E = 0
  · subst h
    obtain ⟨q1, q2⟩ := idR_zero HE.out
    have HN : Hid (0 < N ∧ N ≤ 255) := ⟨q2, idE_len q1⟩
    have HD : Hid (∀ i, i < N → 1 ≤ d i ∧ d i ≤ 255) := (idE_zero q1).1
    have HRd : Hid (∀ j, j < N → R256 (d j)) := fun j hj => by have := HD.out j hj; unfold R256; omega
    have HIE : Hid (idE d N = 0) := q1
    have HV : Hid (wsum x d (rd0 y) N N = V) := by show _ = V; rw [HV0.out, if_pos rfl, wsum_rd0]
    clear q1 q2 HV0
    go_wp2_with fail
    refine wp_region_held_drew (S := fun w' => Chg wr w' [rb]) (by kernel_rfl) ((Chg.refl wr _).drew) (fun hHeld => ?_)
    replace Br : Blk wr.drew rb z32 24 := Br
    have CH : Chg wr wr.drew [] := (Chg.refl _ _).drew
    refine take_val (v := ?_) 0 (some 14) rfl (by kernel_rfl) (by kernel_rfl) (by kernel_rfl) (fun _ _ _ h => h) rfl rfl (fun w hSw => ?_) hHeld ?_
    rotate_left
    · (go_simp; try with_reducible rfl)
    try simp only [Act.put, List.setIfInBounds_toArray, List.set_cons_zero, List.set_cons_succ]
    refine take_val (v := ?_) 3 (some 17) rfl (by kernel_rfl) (by kernel_rfl) (by kernel_rfl) (fun _ _ _ h => h) rfl rfl (fun w hSw => ?_) hHeld ?_
    rotate_left
    · (go_simp; try with_reducible rfl)
    try simp only [Act.put, List.setIfInBounds_toArray, List.set_cons_zero, List.set_cons_succ]
    refine take_load 5 (some 19) (feC x) rfl (by kernel_rfl) (by kernel_rfl) (by kernel_rfl) (fun _ _ _ h => h) rfl rfl 24 _ rfl xb rfl 24 _ (fun w h => Bx.chg h HXR.out) Tryz.underlying24 rfl (by first | exact feInfo | kernel_rfl) hHeld ?_
    try simp only [Act.put, List.setIfInBounds_toArray, List.set_cons_zero, List.set_cons_succ]
    refine wpAnyH_ready (rs := [1]) (by kernel_rfl) (by simp) ?_
    refine AllReadyH.cons (o := _) rfl (fun K hK => ?_) ?_
    ·
      go_simp
      refine (of_r _ N d y (by have := HN.out; omega) _ (HL.out.chg (C.trans1 CH))).mono ?_
      rintro e w5 ⟨r1, rfl, O1, kk⟩
      have I1 := O1.ilL
      go_wp2_with fail
      refine hK.out _ _ (hHeld.trans1 kk.wide) (fun hHeld => ?_)
      clear hK K
      try simp only [Act.put, List.setIfInBounds_toArray, List.set_cons_zero, List.set_cons_succ]
      replace Br := Br.chg kk (by simp)
      replace CH := CH.trans1 kk
      clear kk O1
      refine wpAnyH_ready (rs := [2]) (by kernel_rfl) (by simp) ?_
      refine AllReadyH.cons (o := _) rfl (fun K hK => ?_) ?_
      ·
        go_simp
        refine (places_r _ N d (by have := HN.out; omega) HD.out _ I1).mono ?_
        rintro e w6 ⟨r2, rfl, O2, kk⟩
        have LX := O2.pl HRd.out
        go_wp2_with fail
        refine hK.out _ _ (hHeld.trans1 kk.wide) (fun hHeld => ?_)
        clear hK K
        try simp only [Act.put, List.setIfInBounds_toArray, List.set_cons_zero, List.set_cons_succ]
        replace Br := Br.chg kk (by simp)
        replace CH := CH.trans1 kk
        clear kk O2 I1
        refine wpAnyH_ready (rs := [4]) (by kernel_rfl) (by simp) ?_
        refine AllReadyH.cons (o := _) rfl (fun K hK => ?_) ?_
        ·
          go_simp
          refine (values_r _ N d y (by have := HN.out; omega) _ (HL.out.chg (C.trans1 CH))).mono ?_
          rintro e w7 ⟨r3, rfl, O3, kk⟩
          have LY := O3.pl (fun j _ => r256_mod _)
          go_wp2_with fail
          refine hK.out _ _ (hHeld.trans1 kk.wide) (fun hHeld => ?_)
          clear hK K
          try simp only [Act.put, List.setIfInBounds_toArray, List.set_cons_zero, List.set_cons_succ]
          replace Br := Br.chg kk (by simp)
          replace CH := CH.trans1 kk
          replace LX := LX.chg0 kk
          clear kk O3
          refine wpAnyH_ready (rs := [6]) (by kernel_rfl) (by simp) ?_
          refine AllReadyH.cons (o := _) rfl (fun K hK => ?_) ?_
          ·
            go_simp
            refine (through_r _ _ N d (rd0 y) HIE.out (fun j _ => r256_mod _) x HRx.out _ LX LY).mono ?_
            rintro e w8 ⟨rfl, kk⟩
            rw [HV.out]
            go_wp2_with fail
            refine hK.out _ _ (hHeld.trans1 kk.wide) (fun hHeld => ?_)
            clear hK K
            try simp only [Act.put, List.setIfInBounds_toArray, List.set_cons_zero, List.set_cons_succ]
            replace Br := Br.chg kk (by simp)
            clear kk LX LY
            refine wpAnyH_ready (rs := [7]) (by kernel_rfl) (by simp) ?_
            refine AllReadyH.cons (o := _) rfl (fun K hK => ?_) ?_
            ·
              rw [if_pos (by rfl)]
              refine wp_store_w Br 24 _ _ (feC V) rfl rfl rfl feInfo rfl (feC_one _) ?_
              intro w9 B9 k9
              refine hK.out _ _ (hHeld.trans1 k9) (fun hHeld => ?_)
              clear hK K
              try simp only [Act.put, List.setIfInBounds_toArray, List.set_cons_zero, List.set_cons_succ]
              refine take_val (v := ?_) 8 (some 5) rfl (by kernel_rfl) (by kernel_rfl) (by kernel_rfl) (fun _ _ _ h => h) rfl rfl (fun w hSw => ?_) hHeld ?_
              rotate_left
              · (go_simp; try with_reducible rfl)
              try simp only [Act.put, List.setIfInBounds_toArray, List.set_cons_zero, List.set_cons_succ]
              refine wpAnyH_done (by kernel_rfl) ?_ _
              replace C := C.new hHeld HRB.out
              clear Br k9 hHeld CH
              go_wp2_with fail
              exact bodyPost_ret (results_cell_tmp Tryz.results27 _ _ rb 24 (feC V) _ _ rfl rfl B9 Tryz.underlying24 rfl feInfo) rfl ⟨rfl, C⟩
            exact AllReadyH.nil
          exact AllReadyH.nil
        exact AllReadyH.nil
      exact AllReadyH.nil
    exact AllReadyH.nil
  · have HV2 : Hid (V = 0) := by show V = _; rw [HV0.out, if_neg h]
    go_wp2_with (first
      | (refine gl_build (by rfl) 24 #[] rfl (feC 0) (by kernel_rfl) ?_)
      | (refine store_w Br rfl 24 _ _ (feC 0) rfl rfl rfl feInfo rfl (feC_one _) ?_; intro w7 B7 k7))
    exact bodyPost_ret (results_cell_tmp Tryz.results27 _ _ rb 24 (feC 0) _ _ rfl rfl B7 Tryz.underlying24 rfl feInfo) rfl ⟨by rw [HV2.out]; rfl, C.new k7 HRB.out⟩
end Go.Proofs.YtemjpibmefggnaaGreat

/- rimeref07.Threshold, enough, one. -/
set_option linter.unusedVariables false
set_option linter.unusedSimpArgs false
set_option linter.unnecessarySimpa false
namespace Go.Proofs.YtemjpibmefggnaaGreat
open Go.RowKit N

theorem Ls.take {w : World} {p : Option Addr} {N c : Nat} {f : Nat → Nat} (h : Ls w (.slice p N c) N f) {n : Nat} (h0 : 0 < n) (hn : n ≤ N) : Ls w (.slice p n c) n f := by
  refine ⟨fun i hi => h.1 i (by omega), ?_⟩
  rcases h.2 with ⟨h1, _⟩ | ⟨g, o, cap, e, h1, h2, h3, h4⟩
  · omega
  · simp only [Value.slice.injEq] at e
    obtain ⟨rfl, _, rfl⟩ := e
    exact Or.inr ⟨g, o, c, rfl, by omega, h2, h3, fun i hi => h4 i (by omega)⟩
theorem Ls.cap {w : World} {p : Option Addr} {N c : Nat} {f : Nat → Nat} (h : Ls w (.slice p N c) N f) : N ≤ c := by
  rcases h.2 with ⟨h1, _⟩ | ⟨g, o, cap, e, h1, _⟩
  · omega
  · simp only [Value.slice.injEq] at e
    obtain ⟨_, _, rfl⟩ := e
    exact h1
theorem idE_lo {d : Nat → Int} {N T : Nat} (h : idE d N = 0) (hT : T ≤ N) : idE d T = 0 := by
  obtain ⟨q1, q2⟩ := idE_zero h
  exact idE_mk (fun i hi => q1 i (by omega)) (fun i j hi hj => q2 i j (by omega) (by omega))
/-- Lagrange's value and Newton's are one. -/
theorem wsum_cc {d y : Nat → Int} {T : Nat} (h : idE d T = 0) (x : Int) : wsum x d (rd0 y) T T = ev (nT (cc d y T)) x 0 T :=
  wsum_ev h x (nT (cc d y T)) (rd0 y) (Nat.le_refl T) fun i hi => by
    rw [ev_cc (fun j hj => id_ne h j hj) hi]
    unfold rd0 ad
    rw [Int.emod_emod_of_dvd _ (Int.dvd_refl L)]
theorem rdz_r (X : Nat → Int) (j : Nat) : R256 (rd0 X j) := r256_mod _
theorem cn_ad (x : Int) : cn x = ad x 0 := by unfold cn ad; rw [Int.add_zero]
theorem stL_all {f : Nat → Nat} {M : Nat} {d y : Nat → Int} : ∀ {N : Nat}, stL f M d y N = [] → ∀ i, i < N → ev f (d i) 0 M = cn (y i)
  | 0, _, i, hi => by omega
  | N + 1, h, i, hi => by
    unfold stL at h
    by_cases q : ev f (d N) 0 M = cn (y N)
    · rw [if_pos q] at h
      by_cases e : i = N
      · subst e; exact q
      · exact stL_all h i (by omega)
    · rw [if_neg q] at h; simp at h
/-- The shares behind the first T lie on the polynomial of the first T. -/
def onB (d y : Nat → Int) (T N : Nat) : Bool := decide (stL (nT (cc d y (min T N))) (min T N) d y N = [])
theorem onB_all {d y : Nat → Int} {N T : Nat} (h : idE d N = 0) (ha : ∀ i, T ≤ i → i < N → ev (nT (cc d y T)) (d i) 0 T = rd0 y i) : onB d y T N = true := by
  refine decide_eq_true (stL_nil fun i hi => ?_)
  by_cases q : i < min T N
  · rw [ev_cc (fun j hj => id_ne h j (by omega)) q, cn_ad]
  · have e : min T N = T := by omega
    rw [e, ha i (by omega) hi, cn_ad]; rfl
theorem onB_no {d y : Nat → Int} {N T i : Nat} (hT : T ≤ N) (hi : i < N) (hn : ¬ ev (nT (cc d y T)) (d i) 0 T = rd0 y i) : onB d y T N = false := by
  refine decide_eq_false fun e => hn ?_
  rw [show min T N = T by omega] at e
  rw [stL_all e i hi, cn_ad]; rfl
set_option maxHeartbeats 4000000 in
set_option maxRecDepth 100000 in
theorem Threshold_r (t : Int) (w : World) : Calls Tryz.prog 82 #[.int .i64 t] w fun e w' => e = .returned (.int .i64 (if 1 ≤ t ∧ t ≤ 255 then 0 else 7)) ∧ w' = w := by
  by_cases h1 : t < 1
  · rw [if_neg (by omega)]
    go_enter Tryz.func82, Tryz.ntmps82
    go_wp2_with fail
    go_ret
    exact ⟨rfl, rfl⟩
  · by_cases h2 : 255 < t
    · rw [if_neg (by omega)]
      go_enter Tryz.func82, Tryz.ntmps82
      go_wp2_with fail
      go_ret
      exact ⟨rfl, rfl⟩
    · rw [if_pos (by omega)]
      go_enter Tryz.func82, Tryz.ntmps82
      go_wp2_with fail
      go_ret
      exact ⟨rfl, rfl⟩
set_option maxHeartbeats 8000000 in
set_option maxRecDepth 100000 in
theorem one_r (v : Value) (N T : Nat) (d y : Nat → Int) (hd : idE d N = 0) (h0 : 0 < T) (w : World) (hL : Hl w v N d y) :
    Calls Tryz.prog 80 #[v, .int .i64 (T : Int)] w fun e w' => e = .returned (.bool (onB d y T N)) ∧ Chg w w' [] := by
  have HL : Hid (Hl w v N d y) := hL
  have HIE : Hid (idE d N = 0) := hd
  have HN : Hid (N ≤ 255) := idE_len hd
  have HD : Hid (∀ i, i < N → 1 ≤ d i ∧ d i ≤ 255) := (idE_zero hd).1
  have HRd : Hid (∀ j, j < N → R256 (d j)) := fun j hj => by have := HD.out j hj; unfold R256; omega
  have H0 : Hid (0 < T) := h0
  obtain ⟨p, cp, rfl, _⟩ := hL.1.form
  obtain ⟨B, hB⟩ : ∃ B, onB d y T N = B := ⟨_, rfl⟩
  have HB : Hid (onB d y T N = B) := hB
  rw [hB]
  clear hL hd h0 hB
  by_cases hNT : N ≤ T
  · have hI : (N : Int) ≤ (T : Int) := by omega
    have HBt : Hid (B = true) := by show B = true; rw [← HB.out]; exact onB_all HIE.out fun i h1 h2 => by omega
    clear hNT
    go_enter Tryz.func80, Tryz.ntmps80
    go_wp2_with fail
    go_ret
    exact ⟨by rw [HBt.out]; rfl, Chg.refl w []⟩
  have hI : ¬ (N : Int) ≤ (T : Int) := by omega
  have HT : Hid (T < N) := by show T < N; omega
  clear hNT
  go_enter Tryz.func80, Tryz.ntmps80
  go_wp2_with fail
  refine (of_r _ N d y (by have := HN.out; omega) _ HL.out).mono ?_
  rintro e w1 ⟨r0, rfl, O0, k1⟩
  have I1 := O0.ilL
  have C := k1
  clear k1 O0
  go_wp2_with fail
  refine (places_r _ N d (by have := HN.out; omega) HD.out _ I1).mono ?_
  rintro e w2 ⟨r1, rfl, O1, k1⟩
  have LX := O1.pl HRd.out
  replace C := C.trans1 k1
  clear k1 O1 I1
  go_wp2_with fail
  refine (values_r _ N d y (by have := HN.out; omega) _ (HL.out.chg C)).mono ?_
  rintro e w3 ⟨r2, rfl, O2, k1⟩
  have LY := O2.pl (fun j _ => r256_mod _)
  replace LX := LX.chg0 k1
  replace C := C.trans1 k1
  clear k1 O2
  obtain ⟨px, cx, rfl, hpx⟩ := LX.range
  obtain ⟨py, cy, rfl, hpy⟩ := LY.range
  have HLX : Hid (Ls w3 (.slice px N cx) N (nT d)) := LX
  have HLY : Hid (Ls w3 (.slice py N cy) N (nT (rd0 y))) := LY
  have HPx : Hid (∀ i, i < N → ∃ g o, px = some ⟨g, o, none⟩ ∧ g < w3.heap.size ∧ w3.rangeAt g (o + i * 32) (feL (d i))) := fun i hi => by
    obtain ⟨g, o, h1, h2, h3⟩ := hpx i hi
    rw [nT_c _ _ (HRd.out i hi).1] at h3
    exact ⟨g, o, h1, h2, h3⟩
  have HPy : Hid (∀ i, i < N → ∃ g o, py = some ⟨g, o, none⟩ ∧ g < w3.heap.size ∧ w3.rangeAt g (o + i * 32) (feL (rd0 y i))) := fun i hi => by
    obtain ⟨g, o, h1, h2, h3⟩ := hpy i hi
    rw [nT_c _ _ (rdz_r y i).1] at h3
    exact ⟨g, o, h1, h2, h3⟩
  clear hpx hpy LX LY
  go_wp2_with fail
  go_loopw [7] (fun t wr => ∃ i : Nat, T ≤ i ∧ i ≤ N ∧ t = .int .i64 (i : Int) ∧ (∀ j, T ≤ j → j < i → ev (nT (cc d y T)) (d j) 0 T = rd0 y j) ∧ Chg w3 wr []) (fun t _ => (N - intOf t).toNat)
  case atStart => exact ⟨T, Nat.le_refl _, Nat.le_of_lt HT.out, rfl, fun j h1 h2 => by omega, Chg.refl w3 []⟩
  case round =>
    obtain ⟨i, hTi, hi, rfl, hA, Cr⟩ := hrel
    have HA : Hid (∀ j, T ≤ j → j < i → ev (nT (cc d y T)) (d j) 0 T = rd0 y j) := hA
    clear hA
    by_cases h : i < N
    · have hI2 : (i : Int) < (N : Int) := by omega
      have hI0 : (0 : Int) ≤ (i : Int) := by omega
      have e1 : IntKind.i64.wrap ((i : Int) + 1) = (i : Int) + 1 := by have := HN.out; rw [IntKind.wrap_i64]; omega
      have HMs : Hid _ := mN N i h
      have HI : Hid (i < N) := h
      have HTi : Hid (T ≤ i + 1) := by show T ≤ i + 1; omega
      obtain ⟨gx, ox, rfl, hgx, hFx⟩ := HPx.out i h
      obtain ⟨gy, oy, rfl, hgy, hFy⟩ := HPy.out i h
      have hX' := rangeAt_chg hFx hgx Cr (by simp)
      have hY' := rangeAt_chg hFy hgy Cr (by simp)
      have HGx : Hid (gx < wr.heap.size) := Nat.lt_of_lt_of_le hgx Cr.size
      have HGy : Hid (gy < wr.heap.size) := Nat.lt_of_lt_of_le hgy Cr.size
      have hcx : (T : Int) ≤ (cx : Int) := by have := HLX.out.cap; have := HT.out; omega
      have hcy : (T : Int) ≤ (cy : Int) := by have := HLY.out.cap; have := HT.out; omega
      have hT0 : (0 : Int) ≤ (T : Int) := by omega
      obtain ⟨V, hV⟩ : ∃ V, ev (nT (cc d y T)) (d i) 0 T = V := ⟨_, rfl⟩
      have HTh : Hid (∀ W, Chg w3 W [] → Calls Tryz.prog 74 #[.slice (some ⟨gx, ox, none⟩) T cx, .slice (some ⟨gy, oy, none⟩) T cy, fe (d i)] W fun e w' => e = .returned (fe V) ∧ Chg W w' []) := fun W hc => by
        have q := through_r _ _ T d (rd0 y) (idE_lo HIE.out (Nat.le_of_lt HT.out)) (fun j _ => rdz_r y j) (d i) (HRd.out i HI.out) W ((HLX.out.take H0.out (Nat.le_of_lt HT.out)).chg0 hc) ((HLY.out.take H0.out (Nat.le_of_lt HT.out)).chg0 hc)
        rwa [wsum_cc (idE_lo HIE.out (Nat.le_of_lt HT.out)), hV] at q
      have HV : Hid (ev (nT (cc d y T)) (d i) 0 T = V) := hV
      have HCw : Hid (Chg w w3 []) := C
      have HrV : Hid (R256 V) := by show R256 V; rw [← hV]; exact r256_rl (ev_rl _ _ _ _)
      clear hFx hgx hFy hgy h hi hTi hV C
      have C := Cr
      clear Cr
      by_cases q : V = rd0 y i
      · have z1 : eqf V (rd0 y i) = true := by rw [q]; exact eqf_self _
        have HAll : Hid (∀ j, T ≤ j → j < i + 1 → ev (nT (cc d y T)) (d j) 0 T = rd0 y j) := fun j h1 h2 => by
          by_cases e : j = i
          · subst e; rw [HV.out]; exact q
          · exact HA.out j h1 (by omega)
        clear q
        go_wp2_with fail
        refine wp_region_held_drew (S := fun w' => Chg wr w' []) (by kernel_rfl) ((Chg.refl wr _).drew) (fun hHeld => ?_)
        refine take_val (v := ?_) 0 (some 24) rfl (by kernel_rfl) (by kernel_rfl) (by kernel_rfl) (fun _ _ _ h => h) rfl rfl (fun w hSw => ?_) hHeld ?_
        rotate_left
        · (go_simp; try with_reducible rfl)
        try simp only [Act.put, List.setIfInBounds_toArray, List.set_cons_zero, List.set_cons_succ]
        refine take_val (v := ?_) 1 (some 25) rfl (by kernel_rfl) (by kernel_rfl) (by kernel_rfl) (fun _ _ _ h => h) rfl rfl (fun w hSw => ?_) hHeld ?_
        rotate_left
        · (go_simp; try with_reducible rfl)
        try simp only [Act.put, List.setIfInBounds_toArray, List.set_cons_zero, List.set_cons_succ]
        refine take_val (v := (.slice (some ⟨gx, ox, none⟩) T cx)) 2 (some 26) rfl (by kernel_rfl) (by kernel_rfl) (by kernel_rfl) (fun _ _ _ h => h) rfl rfl (fun w hSw => ?_) hHeld ?_
        · (go_simp; try with_reducible rfl)
        try simp only [Act.put, List.setIfInBounds_toArray, List.set_cons_zero, List.set_cons_succ]
        refine take_val (v := ?_) 3 (some 27) rfl (by kernel_rfl) (by kernel_rfl) (by kernel_rfl) (fun _ _ _ h => h) rfl rfl (fun w hSw => ?_) hHeld ?_
        rotate_left
        · (go_simp; try with_reducible rfl)
        try simp only [Act.put, List.setIfInBounds_toArray, List.set_cons_zero, List.set_cons_succ]
        refine take_val (v := ?_) 4 (some 28) rfl (by kernel_rfl) (by kernel_rfl) (by kernel_rfl) (fun _ _ _ h => h) rfl rfl (fun w hSw => ?_) hHeld ?_
        rotate_left
        · (go_simp; try with_reducible rfl)
        try simp only [Act.put, List.setIfInBounds_toArray, List.set_cons_zero, List.set_cons_succ]
        refine take_val (v := (.slice (some ⟨gy, oy, none⟩) T cy)) 5 (some 29) rfl (by kernel_rfl) (by kernel_rfl) (by kernel_rfl) (fun _ _ _ h => h) rfl rfl (fun w hSw => ?_) hHeld ?_
        · (go_simp; try with_reducible rfl)
        try simp only [Act.put, List.setIfInBounds_toArray, List.set_cons_zero, List.set_cons_succ]
        refine take_val (v := ?_) 6 (some 30) rfl (by kernel_rfl) (by kernel_rfl) (by kernel_rfl) (fun _ _ _ h => h) rfl rfl (fun w hSw => ?_) hHeld ?_
        rotate_left
        · (go_simp; try with_reducible rfl)
        try simp only [Act.put, List.setIfInBounds_toArray, List.set_cons_zero, List.set_cons_succ]
        refine take_val (v := ?_) 7 (some 31) rfl (by kernel_rfl) (by kernel_rfl) (by kernel_rfl) (fun _ _ _ h => h) rfl rfl (fun w hSw => ?_) hHeld ?_
        rotate_left
        · (go_simp; try with_reducible rfl)
        try simp only [Act.put, List.setIfInBounds_toArray, List.set_cons_zero, List.set_cons_succ]
        refine take_val (v := ?_) 8 (some 32) rfl (by kernel_rfl) (by kernel_rfl) (by kernel_rfl) (fun _ _ _ h => h) rfl rfl (fun w hSw => ?_) hHeld ?_
        rotate_left
        · (go_simp; try with_reducible rfl)
        try simp only [Act.put, List.setIfInBounds_toArray, List.set_cons_zero, List.set_cons_succ]
        refine take_val (v := (.agg (feC (d i)))) 9 (some 33) rfl (by kernel_rfl) (by kernel_rfl) (by kernel_rfl) (fun _ _ _ h => h) rfl rfl (fun w hSw => ?_) hHeld ?_
        · exact exec_load_m w 24 _ rfl gx (ox + i * 32) rfl (feL (d i)) _ (rangeAt_chg hX' HGx.out hSw (by simp)) Tryz.underlying24 rfl feInfo
        try simp only [Act.put, List.setIfInBounds_toArray, List.set_cons_zero, List.set_cons_succ]
        refine take_val (v := ?_) 11 (some 35) rfl (by kernel_rfl) (by kernel_rfl) (by kernel_rfl) (fun _ _ _ h => h) rfl rfl (fun w hSw => ?_) hHeld ?_
        rotate_left
        · (go_simp; try with_reducible rfl)
        try simp only [Act.put, List.setIfInBounds_toArray, List.set_cons_zero, List.set_cons_succ]
        refine take_val (v := ?_) 12 (some 36) rfl (by kernel_rfl) (by kernel_rfl) (by kernel_rfl) (fun _ _ _ h => h) rfl rfl (fun w hSw => ?_) hHeld ?_
        rotate_left
        · (go_simp; try with_reducible rfl)
        try simp only [Act.put, List.setIfInBounds_toArray, List.set_cons_zero, List.set_cons_succ]
        refine take_val (v := ?_) 13 (some 37) rfl (by kernel_rfl) (by kernel_rfl) (by kernel_rfl) (fun _ _ _ h => h) rfl rfl (fun w hSw => ?_) hHeld ?_
        rotate_left
        · (go_simp; try with_reducible rfl)
        try simp only [Act.put, List.setIfInBounds_toArray, List.set_cons_zero, List.set_cons_succ]
        refine take_val (v := (.agg (feC (rd0 y i)))) 14 (some 38) rfl (by kernel_rfl) (by kernel_rfl) (by kernel_rfl) (fun _ _ _ h => h) rfl rfl (fun w hSw => ?_) hHeld ?_
        · exact exec_load_m w 24 _ rfl gy (oy + i * 32) rfl (feL (rd0 y i)) _ (rangeAt_chg hY' HGy.out hSw (by simp)) Tryz.underlying24 rfl feInfo
        try simp only [Act.put, List.setIfInBounds_toArray, List.set_cons_zero, List.set_cons_succ]
        refine wpAnyH_ready (rs := [10]) (by kernel_rfl) (by simp) ?_
        refine AllReadyH.cons (o := _) rfl (fun K hK => ?_) ?_
        ·
          go_simp
          refine (HTh.out _ (C.trans1 hHeld)).mono ?_
          rintro e w5 ⟨rfl, kk⟩
          go_wp2_with fail
          refine hK.out _ _ (hHeld.trans1 kk.wide) (fun hHeld => ?_)
          clear hK K
          try simp only [Act.put, List.setIfInBounds_toArray, List.set_cons_zero, List.set_cons_succ]
          clear kk
          refine take_val (v := (.bool false)) 15 (some 39) rfl (by kernel_rfl) (by kernel_rfl) (by kernel_rfl) (fun _ _ _ h => h) rfl rfl (fun w hSw => ?_) hHeld ?_
          · (go_simp; try with_reducible rfl)
          try simp only [Act.put, List.setIfInBounds_toArray, List.set_cons_zero, List.set_cons_succ]
          refine wpAnyH_done (by kernel_rfl) ?_ _
          replace C := C.trans1 hHeld
          clear hHeld hX' hY'
          go_wp2_with fail
          go_roundw
          case rel => exact ⟨i + 1, HTi.out, HI.out, by go_num, HAll.out, C⟩
          case measure => exact HMs.out
        exact AllReadyH.nil
      · have z1 : eqf V (rd0 y i) = false := by
          rw [eqf_eq HrV.out (rdz_r y i)]; exact decide_eq_false q
        have HEq : Hid (¬ V = rd0 y i) := q
        have HBf : Hid (¬ V = rd0 y i → B = false) := fun hq => by rw [← HB.out]; exact onB_no (Nat.le_of_lt HT.out) HI.out (by rw [HV.out]; exact hq)
        clear q
        go_wp2_with fail
        refine wp_region_held_drew (S := fun w' => Chg wr w' []) (by kernel_rfl) ((Chg.refl wr _).drew) (fun hHeld => ?_)
        refine take_val (v := ?_) 0 (some 24) rfl (by kernel_rfl) (by kernel_rfl) (by kernel_rfl) (fun _ _ _ h => h) rfl rfl (fun w hSw => ?_) hHeld ?_
        rotate_left
        · (go_simp; try with_reducible rfl)
        try simp only [Act.put, List.setIfInBounds_toArray, List.set_cons_zero, List.set_cons_succ]
        refine take_val (v := ?_) 1 (some 25) rfl (by kernel_rfl) (by kernel_rfl) (by kernel_rfl) (fun _ _ _ h => h) rfl rfl (fun w hSw => ?_) hHeld ?_
        rotate_left
        · (go_simp; try with_reducible rfl)
        try simp only [Act.put, List.setIfInBounds_toArray, List.set_cons_zero, List.set_cons_succ]
        refine take_val (v := (.slice (some ⟨gx, ox, none⟩) T cx)) 2 (some 26) rfl (by kernel_rfl) (by kernel_rfl) (by kernel_rfl) (fun _ _ _ h => h) rfl rfl (fun w hSw => ?_) hHeld ?_
        · (go_simp; try with_reducible rfl)
        try simp only [Act.put, List.setIfInBounds_toArray, List.set_cons_zero, List.set_cons_succ]
        refine take_val (v := ?_) 3 (some 27) rfl (by kernel_rfl) (by kernel_rfl) (by kernel_rfl) (fun _ _ _ h => h) rfl rfl (fun w hSw => ?_) hHeld ?_
        rotate_left
        · (go_simp; try with_reducible rfl)
        try simp only [Act.put, List.setIfInBounds_toArray, List.set_cons_zero, List.set_cons_succ]
        refine take_val (v := ?_) 4 (some 28) rfl (by kernel_rfl) (by kernel_rfl) (by kernel_rfl) (fun _ _ _ h => h) rfl rfl (fun w hSw => ?_) hHeld ?_
        rotate_left
        · (go_simp; try with_reducible rfl)
        try simp only [Act.put, List.setIfInBounds_toArray, List.set_cons_zero, List.set_cons_succ]
        refine take_val (v := (.slice (some ⟨gy, oy, none⟩) T cy)) 5 (some 29) rfl (by kernel_rfl) (by kernel_rfl) (by kernel_rfl) (fun _ _ _ h => h) rfl rfl (fun w hSw => ?_) hHeld ?_
        · (go_simp; try with_reducible rfl)
        try simp only [Act.put, List.setIfInBounds_toArray, List.set_cons_zero, List.set_cons_succ]
        refine take_val (v := ?_) 6 (some 30) rfl (by kernel_rfl) (by kernel_rfl) (by kernel_rfl) (fun _ _ _ h => h) rfl rfl (fun w hSw => ?_) hHeld ?_
        rotate_left
        · (go_simp; try with_reducible rfl)
        try simp only [Act.put, List.setIfInBounds_toArray, List.set_cons_zero, List.set_cons_succ]
        refine take_val (v := ?_) 7 (some 31) rfl (by kernel_rfl) (by kernel_rfl) (by kernel_rfl) (fun _ _ _ h => h) rfl rfl (fun w hSw => ?_) hHeld ?_
        rotate_left
        · (go_simp; try with_reducible rfl)
        try simp only [Act.put, List.setIfInBounds_toArray, List.set_cons_zero, List.set_cons_succ]
        refine take_val (v := ?_) 8 (some 32) rfl (by kernel_rfl) (by kernel_rfl) (by kernel_rfl) (fun _ _ _ h => h) rfl rfl (fun w hSw => ?_) hHeld ?_
        rotate_left
        · (go_simp; try with_reducible rfl)
        try simp only [Act.put, List.setIfInBounds_toArray, List.set_cons_zero, List.set_cons_succ]
        refine take_val (v := (.agg (feC (d i)))) 9 (some 33) rfl (by kernel_rfl) (by kernel_rfl) (by kernel_rfl) (fun _ _ _ h => h) rfl rfl (fun w hSw => ?_) hHeld ?_
        · exact exec_load_m w 24 _ rfl gx (ox + i * 32) rfl (feL (d i)) _ (rangeAt_chg hX' HGx.out hSw (by simp)) Tryz.underlying24 rfl feInfo
        try simp only [Act.put, List.setIfInBounds_toArray, List.set_cons_zero, List.set_cons_succ]
        refine take_val (v := ?_) 11 (some 35) rfl (by kernel_rfl) (by kernel_rfl) (by kernel_rfl) (fun _ _ _ h => h) rfl rfl (fun w hSw => ?_) hHeld ?_
        rotate_left
        · (go_simp; try with_reducible rfl)
        try simp only [Act.put, List.setIfInBounds_toArray, List.set_cons_zero, List.set_cons_succ]
        refine take_val (v := ?_) 12 (some 36) rfl (by kernel_rfl) (by kernel_rfl) (by kernel_rfl) (fun _ _ _ h => h) rfl rfl (fun w hSw => ?_) hHeld ?_
        rotate_left
        · (go_simp; try with_reducible rfl)
        try simp only [Act.put, List.setIfInBounds_toArray, List.set_cons_zero, List.set_cons_succ]
        refine take_val (v := ?_) 13 (some 37) rfl (by kernel_rfl) (by kernel_rfl) (by kernel_rfl) (fun _ _ _ h => h) rfl rfl (fun w hSw => ?_) hHeld ?_
        rotate_left
        · (go_simp; try with_reducible rfl)
        try simp only [Act.put, List.setIfInBounds_toArray, List.set_cons_zero, List.set_cons_succ]
        refine take_val (v := (.agg (feC (rd0 y i)))) 14 (some 38) rfl (by kernel_rfl) (by kernel_rfl) (by kernel_rfl) (fun _ _ _ h => h) rfl rfl (fun w hSw => ?_) hHeld ?_
        · exact exec_load_m w 24 _ rfl gy (oy + i * 32) rfl (feL (rd0 y i)) _ (rangeAt_chg hY' HGy.out hSw (by simp)) Tryz.underlying24 rfl feInfo
        try simp only [Act.put, List.setIfInBounds_toArray, List.set_cons_zero, List.set_cons_succ]
        refine wpAnyH_ready (rs := [10]) (by kernel_rfl) (by simp) ?_
        refine AllReadyH.cons (o := _) rfl (fun K hK => ?_) ?_
        ·
          go_simp
          refine (HTh.out _ (C.trans1 hHeld)).mono ?_
          rintro e w5 ⟨rfl, kk⟩
          go_wp2_with fail
          refine hK.out _ _ (hHeld.trans1 kk.wide) (fun hHeld => ?_)
          clear hK K
          try simp only [Act.put, List.setIfInBounds_toArray, List.set_cons_zero, List.set_cons_succ]
          clear kk
          refine take_val (v := (.bool true)) 15 (some 39) rfl (by kernel_rfl) (by kernel_rfl) (by kernel_rfl) (fun _ _ _ h => h) rfl rfl (fun w hSw => ?_) hHeld ?_
          · (go_simp; try with_reducible rfl)
          try simp only [Act.put, List.setIfInBounds_toArray, List.set_cons_zero, List.set_cons_succ]
          refine wpAnyH_done (by kernel_rfl) ?_ _
          have C9 := C.trans1 hHeld
          clear hHeld hX' hY'
          go_wp2_with fail
          go_ret
          exact ⟨by rw [HBf.out HEq.out]; rfl, HCw.out.trans1 C9⟩
        exact AllReadyH.nil
    · obtain rfl : N = i := by omega
      have hI2 : ¬ (N : Int) < (N : Int) := by omega
      have HBt : Hid (B = true) := by show B = true; rw [← HB.out]; exact onB_all HIE.out HA.out
      clear h hi hTi
      go_wp2_with fail
      go_ret
      exact ⟨by rw [HBt.out]; rfl, C.trans1 Cr⟩
end Go.Proofs.YtemjpibmefggnaaGreat

/- rimeref07.enough, Recover, Consistent. -/
set_option linter.unusedVariables false
set_option linter.unusedSimpArgs false
set_option linter.unnecessarySimpa false
namespace Go.Proofs.YtemjpibmefggnaaGreat
open Go.RowKit N

theorem ev_cc0 {d y : Nat → Int} {T : Nat} (h : 0 < T) : ev (nT (cc d y T)) 0 0 T = cc d y T 0 := by
  obtain ⟨m, e⟩ : ∃ m, T = m + 1 := ⟨T - 1, by omega⟩
  have q : ∀ f : Nat → Nat, ev f 0 0 (m + 1) = ((f 0 : Nat) : Int) % L := fun f => by
    show ma _ 0 _ = _
    unfold ma
    rw [Int.mul_zero, Int.zero_add]
  subst e
  rw [q, nT_c _ _ (cc_r d y (m + 1) 0).1, mod_id (cc_rl d y (m + 1) 0)]
set_option maxHeartbeats 8000000 in
set_option maxRecDepth 100000 in
theorem enough_r (v : Value) (N : Nat) (d y : Nat → Int) (hN : N ≤ 4398046511000) (t : Int) (w : World) (hL : Hl w v N d y) :
    Calls Tryz.prog 79 #[v, .int .i64 t] w fun e w' => e = .returned (.int .i64 (enR d N t)) ∧ Chg w w' [] := by
  have HL : Hid (Hl w v N d y) := hL
  have HNb : Hid (N ≤ 4398046511000) := hN
  obtain ⟨p, cp, rfl, _⟩ := hL.1.form
  have hTh := Threshold_r t w
  clear hL hN
  by_cases h1 : 1 ≤ t ∧ t ≤ 255
  · rw [if_pos h1] at hTh
    by_cases h2 : (N : Int) < t
    · have HE : Hid (enR d N t = 8) := by show enR d N t = 8; unfold enR; rw [if_pos h1, if_pos h2]
      clear h1
      go_enter Tryz.func79, Tryz.ntmps79
      go_wp2_with (go_at_call 82; refine hTh.mono ?_; rintro e w' ⟨rfl, rfl⟩)
      go_ret
      rw [HE.out]
      exact ⟨rfl, Chg.refl _ []⟩
    · have HE : Hid (enR d N t = idR d N) := by show enR d N t = idR d N; unfold enR; rw [if_pos h1, if_neg h2]
      clear h1
      go_enter Tryz.func79, Tryz.ntmps79
      go_wp2_with (go_at_call 82; refine hTh.mono ?_; rintro e w' ⟨rfl, rfl⟩)
      refine (of_r _ N d y HNb.out _ HL.out).mono ?_
      rintro e w3 ⟨r0, rfl, O0, k3⟩
      have hIs := IDs_r _ N d (by have := HNb.out; omega) w3 O0.ilL
      have C := k3
      clear k3 O0
      go_wp2_with fail
      refine hIs.mono ?_
      rintro e wr ⟨rfl, k4⟩
      replace C := C.trans1 k4
      clear k4 hIs
      go_wp2_with fail
      go_ret
      rw [HE.out]
      exact ⟨rfl, C⟩
  · rw [if_neg h1] at hTh
    have HE : Hid (enR d N t = 7) := by show enR d N t = 7; unfold enR; rw [if_neg h1]
    clear h1
    go_enter Tryz.func79, Tryz.ntmps79
    go_wp2_with (go_at_call 82; refine hTh.mono ?_; rintro e w' ⟨rfl, rfl⟩)
    go_ret
    rw [HE.out]
    exact ⟨rfl, Chg.refl _ []⟩
set_option maxHeartbeats 16000000 in
set_option maxRecDepth 100000 in
theorem Recover_r (v : Value) (N : Nat) (d y : Nat → Int) (hN : N ≤ 4398046511000) (t : Int) (w : World) (hL : Hl w v N d y) :
    Calls Tryz.prog 29 #[v, .int .i64 t] w fun e w' => e = .returned (.tuple #[fe (RcR d y N t).1, .int .i64 (RcR d y N t).2]) ∧ Chg w w' [] := by
  have HL : Hid (Hl w v N d y) := hL
  have HNb : Hid (N ≤ 4398046511000) := hN
  obtain ⟨p, cp, rfl, _⟩ := hL.1.form
  obtain ⟨E, hE⟩ : ∃ E, enR d N t = E := ⟨_, rfl⟩
  have HE : Hid (enR d N t = E) := hE
  clear hL hN
  go_enter Tryz.func29, Tryz.ntmps29
  go_wp2_with (with_reducible refine alloc_w rfl 24 rfl (.agg z32) zeroSc z32 rfl ?_; intro rb w2 hrb Br k2)
  have C : Chg w w2 [] := k2
  have HRB : Hid (w.heap.size ≤ rb) := by show w.heap.size ≤ rb; omega
  clear k2 hrb
  refine (enough_r _ N d y HNb.out t _ (HL.out.chg C)).mono ?_
  rintro e w3 ⟨rfl, k3⟩
  rw [hE]
  replace C := C.trans1 k3
  replace Br := Br.chg k3 (by simp)
  clear k3 hE
  by_cases h : E = 0
  · subst h
    obtain ⟨q1, q2, q3, q4⟩ := enR_zero HE.out
    obtain ⟨T, rfl⟩ : ∃ T : Nat, t = (T : Int) := ⟨t.toNat, by omega⟩
    have HT : Hid (0 < T ∧ T ≤ N) := by show 0 < T ∧ T ≤ N; omega
    have hT1 : (T : Int) ≤ (N : Int) := q3
    have hT0 : (0 : Int) ≤ (T : Int) := by omega
    have h4 := (idR_zero q4).1
    have HIN : Hid (idE d N = 0) := h4
    have HN : Hid (N ≤ 255) := idE_len h4
    have HD : Hid (∀ i, i < N → 1 ≤ d i ∧ d i ≤ 255) := (idE_zero h4).1
    have HRd : Hid (∀ j, j < N → R256 (d j)) := fun j hj => by have := HD.out j hj; unfold R256; omega
    have HIE : Hid (idE d T = 0) := idE_lo h4 HT.out.2
    have HR : Hid (RcR d y N (T : Int) = if onB d y T N = true then (cc d y T 0, 0) else (0, 71)) := by
      show RcR d y N (T : Int) = _
      unfold RcR onB
      rw [if_neg (by simp [HE.out]), Int.toNat_natCast, show min T N = T by omega]
      simp only [decide_eq_true_eq]
    clear q1 q2 q3 q4 h4 HE
    go_wp2_with fail
    refine (one_r _ N T d y HIN.out HT.out.1 _ (HL.out.chg C)).mono ?_
    rintro e wr ⟨rfl, k4⟩
    replace C := C.trans1 k4
    replace Br := Br.chg k4 (by simp)
    clear k4
    obtain ⟨b, hb⟩ : ∃ b, onB d y T N = b := ⟨_, rfl⟩
    have HR2 : Hid (RcR d y N (T : Int) = if b = true then (cc d y T 0, 0) else (0, 71)) := by show RcR d y N (T : Int) = _; rw [HR.out, hb]
    rw [hb]
    clear HR hb
    cases b with
    | true =>
      obtain ⟨V, hV⟩ : ∃ V, cc d y T 0 = V := ⟨_, rfl⟩
      have HRp : Hid (RcR d y N (T : Int) = (V, 0)) := by show RcR d y N (T : Int) = _; rw [HR2.out, if_pos rfl, hV]
      have HV : Hid (wsum 0 d (rd0 y) T T = V) := by show _ = V; rw [wsum_cc HIE.out, ev_cc0 HT.out.1, hV]
      clear HR2 hV
      go_wp2_with fail
      refine wp_region_held_drew (S := fun w' => Chg wr w' [rb]) (by kernel_rfl) ((Chg.refl wr _).drew) (fun hHeld => ?_)
      replace Br : Blk wr.drew rb z32 24 := Br
      have CH : Chg wr wr.drew [] := (Chg.refl _ _).drew
      refine take_val (v := ?_) 0 (some 19) rfl (by kernel_rfl) (by kernel_rfl) (by kernel_rfl) (fun _ _ _ h => h) rfl rfl (fun w hSw => ?_) hHeld ?_
      rotate_left
      · (go_simp; try with_reducible rfl)
      try simp only [Act.put, List.setIfInBounds_toArray, List.set_cons_zero, List.set_cons_succ]
      refine take_val (v := ?_) 3 (some 22) rfl (by kernel_rfl) (by kernel_rfl) (by kernel_rfl) (fun _ _ _ h => h) rfl rfl (fun w hSw => ?_) hHeld ?_
      rotate_left
      · (go_simp; try with_reducible rfl)
      try simp only [Act.put, List.setIfInBounds_toArray, List.set_cons_zero, List.set_cons_succ]
      refine take_val (v := ?_) 5 (some 24) rfl (by kernel_rfl) (by kernel_rfl) (by kernel_rfl) (fun _ _ _ h => h) rfl rfl (fun w hSw => ?_) hHeld ?_
      rotate_left
      · (go_simp; try with_reducible rfl)
      try simp only [Act.put, List.setIfInBounds_toArray, List.set_cons_zero, List.set_cons_succ]
      refine take_val (v := ?_) 7 (some 26) rfl (by kernel_rfl) (by kernel_rfl) (by kernel_rfl) (fun _ _ _ h => h) rfl rfl (fun w hSw => ?_) hHeld ?_
      rotate_left
      · (go_simp; try with_reducible rfl)
      try simp only [Act.put, List.setIfInBounds_toArray, List.set_cons_zero, List.set_cons_succ]
      refine take_val (v := .agg (feC 0)) 9 (some 28) rfl (by kernel_rfl) (by kernel_rfl) (by kernel_rfl) (fun _ _ _ h => h) rfl rfl (fun w hSw => exec_build w 24 #[] rfl (feC 0) (by kernel_rfl)) hHeld ?_
      try simp only [Act.put, List.setIfInBounds_toArray, List.set_cons_zero, List.set_cons_succ]
      refine wpAnyH_ready (rs := [1]) (by kernel_rfl) (by simp) ?_
      refine AllReadyH.cons (o := _) rfl (fun K hK => ?_) ?_
      ·
        go_simp
        refine (of_r _ N d y (by have := HN.out; omega) _ (HL.out.chg (C.trans1 CH))).mono ?_
        rintro e w5 ⟨r1, rfl, O1, kk⟩
        have I1 := O1.ilL
        go_wp2_with fail
        refine hK.out _ _ (hHeld.trans1 kk.wide) (fun hHeld => ?_)
        clear hK K
        try simp only [Act.put, List.setIfInBounds_toArray, List.set_cons_zero, List.set_cons_succ]
        replace Br := Br.chg kk (by simp)
        replace CH := CH.trans1 kk
        clear kk O1
        refine wpAnyH_ready (rs := [2]) (by kernel_rfl) (by simp) ?_
        refine AllReadyH.cons (o := _) rfl (fun K hK => ?_) ?_
        ·
          go_simp
          refine (places_r _ N d (by have := HN.out; omega) HD.out _ I1).mono ?_
          rintro e w6 ⟨r2, rfl, O2, kk⟩
          have LX := O2.pl HRd.out
          obtain ⟨px, cx, rfl, _⟩ := LX.range
          have hcx : (T : Int) ≤ (cx : Int) := by have := LX.cap; have := HT.out; omega
          go_wp2_with fail
          refine hK.out _ _ (hHeld.trans1 kk.wide) (fun hHeld => ?_)
          clear hK K
          try simp only [Act.put, List.setIfInBounds_toArray, List.set_cons_zero, List.set_cons_succ]
          replace Br := Br.chg kk (by simp)
          replace CH := CH.trans1 kk
          clear kk O2 I1
          refine take_val (v := (.slice px T cx)) 4 (some 23) rfl (by kernel_rfl) (by kernel_rfl) (by kernel_rfl) (fun _ _ _ h => h) rfl rfl (fun w hSw => ?_) hHeld ?_
          · (go_simp; try with_reducible rfl)
          try simp only [Act.put, List.setIfInBounds_toArray, List.set_cons_zero, List.set_cons_succ]
          refine wpAnyH_ready (rs := [6]) (by kernel_rfl) (by simp) ?_
          refine AllReadyH.cons (o := _) rfl (fun K hK => ?_) ?_
          ·
            go_simp
            refine (values_r _ N d y (by have := HN.out; omega) _ (HL.out.chg (C.trans1 CH))).mono ?_
            rintro e w7 ⟨r3, rfl, O3, kk⟩
            have LY := O3.pl (fun j _ => r256_mod _)
            obtain ⟨py, cy, rfl, _⟩ := LY.range
            have hcy : (T : Int) ≤ (cy : Int) := by have := LY.cap; have := HT.out; omega
            go_wp2_with fail
            refine hK.out _ _ (hHeld.trans1 kk.wide) (fun hHeld => ?_)
            clear hK K
            try simp only [Act.put, List.setIfInBounds_toArray, List.set_cons_zero, List.set_cons_succ]
            replace Br := Br.chg kk (by simp)
            replace CH := CH.trans1 kk
            replace LX := LX.chg0 kk
            clear kk O3
            refine take_val (v := (.slice py T cy)) 8 (some 27) rfl (by kernel_rfl) (by kernel_rfl) (by kernel_rfl) (fun _ _ _ h => h) rfl rfl (fun w hSw => ?_) hHeld ?_
            · (go_simp; try with_reducible rfl)
            try simp only [Act.put, List.setIfInBounds_toArray, List.set_cons_zero, List.set_cons_succ]
            refine wpAnyH_ready (rs := [10]) (by kernel_rfl) (by simp) ?_
            refine AllReadyH.cons (o := _) rfl (fun K hK => ?_) ?_
            ·
              go_simp
              refine (through_r _ _ T d (rd0 y) HIE.out (fun j _ => r256_mod _) 0 r256_c0 _ (LX.take HT.out.1 HT.out.2) (LY.take HT.out.1 HT.out.2)).mono ?_
              rintro e w8 ⟨rfl, kk⟩
              rw [HV.out]
              go_wp2_with fail
              refine hK.out _ _ (hHeld.trans1 kk.wide) (fun hHeld => ?_)
              clear hK K
              try simp only [Act.put, List.setIfInBounds_toArray, List.set_cons_zero, List.set_cons_succ]
              replace Br := Br.chg kk (by simp)
              clear kk LX LY
              refine wpAnyH_ready (rs := [11]) (by kernel_rfl) (by simp) ?_
              refine AllReadyH.cons (o := _) rfl (fun K hK => ?_) ?_
              ·
                rw [if_pos (by rfl)]
                refine wp_store_w Br 24 _ _ (feC V) rfl rfl rfl feInfo rfl (feC_one _) ?_
                intro w9 B9 k9
                refine hK.out _ _ (hHeld.trans1 k9) (fun hHeld => ?_)
                clear hK K
                try simp only [Act.put, List.setIfInBounds_toArray, List.set_cons_zero, List.set_cons_succ]
                refine take_val (v := ?_) 12 (some 5) rfl (by kernel_rfl) (by kernel_rfl) (by kernel_rfl) (fun _ _ _ h => h) rfl rfl (fun w hSw => ?_) hHeld ?_
                rotate_left
                · (go_simp; try with_reducible rfl)
                try simp only [Act.put, List.setIfInBounds_toArray, List.set_cons_zero, List.set_cons_succ]
                refine wpAnyH_done (by kernel_rfl) ?_ _
                replace C := C.new hHeld HRB.out
                clear Br k9 hHeld CH
                go_wp2_with fail
                exact bodyPost_ret (results_cell_tmp Tryz.results29 _ _ rb 24 (feC V) _ _ rfl rfl B9 Tryz.underlying24 rfl feInfo) rfl ⟨by rw [HRp.out]; rfl, C⟩
              exact AllReadyH.nil
            exact AllReadyH.nil
          exact AllReadyH.nil
        exact AllReadyH.nil
      exact AllReadyH.nil
    | false =>
      have HRp : Hid (RcR d y N (T : Int) = (0, 71)) := by show RcR d y N (T : Int) = _; rw [HR2.out]; rfl
      go_wp2_with (first
        | (refine gl_build (by rfl) 24 #[] rfl (feC 0) (by kernel_rfl) ?_)
        | (refine store_w Br rfl 24 _ _ (feC 0) rfl rfl rfl feInfo rfl (feC_one _) ?_; intro w7 B7 k7))
      exact bodyPost_ret (results_cell_tmp Tryz.results29 _ _ rb 24 (feC 0) _ _ rfl rfl B7 Tryz.underlying24 rfl feInfo) rfl ⟨by rw [HRp.out]; rfl, C.new k7 HRB.out⟩
  · have HRp : Hid (RcR d y N t = (0, E)) := by show RcR d y N t = _; unfold RcR; rw [HE.out, if_pos h]
    clear HE
    go_wp2_with (first
      | (refine gl_build (by rfl) 24 #[] rfl (feC 0) (by kernel_rfl) ?_)
      | (refine store_w Br rfl 24 _ _ (feC 0) rfl rfl rfl feInfo rfl (feC_one _) ?_; intro w7 B7 k7))
    exact bodyPost_ret (results_cell_tmp Tryz.results29 _ _ rb 24 (feC 0) _ _ rfl rfl B7 Tryz.underlying24 rfl feInfo) rfl ⟨by rw [HRp.out]; rfl, C.new k7 HRB.out⟩
set_option maxHeartbeats 16000000 in
set_option maxRecDepth 100000 in
theorem Consistent_r (v : Value) (N : Nat) (d y : Nat → Int) (hN : N ≤ 4398046511000) (t : Int) (w : World) (hL : Hl w v N d y) :
    Calls Tryz.prog 31 #[v, .int .i64 t] w fun e w' => e = .returned (.tuple #[.bool (csR d y N t).1, .int .i64 (csR d y N t).2]) ∧ Chg w w' [] := by
  have HL : Hid (Hl w v N d y) := hL
  have HNb : Hid (N ≤ 4398046511000) := hN
  obtain ⟨p, cp, rfl, _⟩ := hL.1.form
  obtain ⟨B, hB⟩ : ∃ B, csR d y N t = B := ⟨_, rfl⟩
  have HB : Hid (csR d y N t = B) := hB
  rw [hB]
  have hTh := Threshold_r t w
  clear hL hN hB
  by_cases h1 : 1 ≤ t ∧ t ≤ 255
  · rw [if_pos h1] at hTh
    go_enter Tryz.func31, Tryz.ntmps31
    go_wp2_with (go_at_call 82; refine hTh.mono ?_; rintro e w' ⟨rfl, rfl⟩)
    refine (of_r _ N d y HNb.out _ HL.out).mono ?_
    rintro e w3 ⟨r0, rfl, O0, k3⟩
    have hIs := IDs_r _ N d (by have := HNb.out; omega) w3 O0.ilL
    have C := k3
    clear k3 O0
    go_wp2_with fail
    refine hIs.mono ?_
    rintro e wr ⟨rfl, k4⟩
    replace C := C.trans1 k4
    clear k4 hIs hTh
    by_cases h0 : idR d N = 0
    · obtain ⟨T, rfl⟩ : ∃ T : Nat, t = (T : Int) := ⟨t.toNat, by omega⟩
      have hT : 0 < T := by omega
      have HT : Hid (0 < T) := hT
      have HIN : Hid (idE d N = 0) := (idR_zero h0).1
      have HB2 : Hid (B = (onB d y T N, 0)) := by
        show B = _
        rw [← HB.out]
        unfold csR onB
        rw [if_pos h1, if_pos h0, Int.toNat_natCast]
        simp only [List.length_eq_zero_iff]
      rw [h0]
      clear h0 h1 HB hT
      go_wp2_with fail
      refine (one_r _ N T d y HIN.out HT.out _ (HL.out.chg C)).mono ?_
      rintro e w6 ⟨rfl, k4⟩
      replace C := C.trans1 k4
      clear k4
      go_wp2_with fail
      go_ret2
      exact ⟨by rw [HB2.out]; rfl, C⟩
    · have HB2 : Hid (B = (false, idR d N)) := by
        show B = _
        rw [← HB.out]
        unfold csR
        rw [if_pos h1, if_neg h0]
      obtain ⟨E, hE⟩ : ∃ E, idR d N = E := ⟨_, rfl⟩
      rw [hE] at h0 HB2 ⊢
      clear HB hE
      go_wp2_with fail
      go_ret2
      exact ⟨by rw [HB2.out]; rfl, C⟩
  · rw [if_neg h1] at hTh
    have HB2 : Hid (B = (false, 7)) := by
      show B = _
      rw [← HB.out]
      unfold csR
      rw [if_neg h1]
    clear HB
    go_enter Tryz.func31, Tryz.ntmps31
    go_wp2_with (go_at_call 82; refine hTh.mono ?_; rintro e w' ⟨rfl, rfl⟩)
    go_ret2
    exact ⟨by rw [HB2.out]; rfl, Chg.refl _ []⟩
end Go.Proofs.YtemjpibmefggnaaGreat
