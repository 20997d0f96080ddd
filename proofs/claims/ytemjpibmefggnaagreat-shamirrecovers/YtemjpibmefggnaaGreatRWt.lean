/- rimeref07.places, weight, Weights, Lagrange. -/
import Derived.Test.YtemjpibmefggnaaGreatMgH
import Derived.Test.YtemjpibmefggnaaGreatWtL
import Derived.Test.YtemjpibmefggnaaGreatMgP
import Derived.Test.YtemjpibmefggnaaGreatShCn
import Derived.Test.YtemjpibmefggnaaGreatMgM
set_option linter.unusedVariables false
set_option linter.unusedSimpArgs false
set_option linter.unnecessarySimpa false
namespace Go.Proofs.YtemjpibmefggnaaGreat
open Go.RowKit N

/-- The first k, as a list. -/
def liL (d : Nat → Int) (k : Nat) : List Int := (List.range k).map d
theorem liL_len (d : Nat → Int) (k : Nat) : (liL d k).length = k := by simp [liL]
theorem liL_s (d : Nat → Int) (k : Nat) : liL d (k + 1) = liL d k ++ [d k] := by simp [liL, List.range_succ]
theorem liL_get (d : Nat → Int) (k j : Nat) (h : j < k) : (liL d k).getD j 0 = d j := by simp [liL, List.getD_eq_getElem?_getD, h]
theorem Os.pl {w : World} {base : Nat} {v : Value} {d : Nat → Int} {N : Nat} (O : Os w base v (liL d N)) (hr : ∀ j, j < N → R256 (d j)) : Ls w v N (nT d) := by
  have q := O.ls (fun j hj => by rw [liL_len] at hj; rw [liL_get _ _ _ hj]; exact hr j hj)
  rw [liL_len] at q
  exact q.congr fun j hj => by rw [liL_get _ _ _ hj]; rfl
set_option maxHeartbeats 8000000 in
set_option maxRecDepth 100000 in
theorem places_r (v : Value) (N : Nat) (d : Nat → Int) (hN : N ≤ 2000000) (hd : ∀ i, i < N → 1 ≤ d i ∧ d i ≤ 255) (w : World) (hL : Il w v N d) :
    Calls Tryz.prog 67 #[v] w fun e w' => ∃ r, e = .returned r ∧ Os w' w.heap.size r (liL d N) ∧ Chg w w' [] := by
  obtain ⟨p, cp, rfl, hp⟩ := hL.form
  have HP : Hid (∀ i, i < N → ∃ g o, p = some ⟨g, o, none⟩ ∧ g < w.heap.size ∧ w.cell? ⟨g, o + i, none⟩ = some (.int .i64 (d i))) := hp
  have HN : Hid (N ≤ 2000000) := hN
  have HD : Hid (∀ i, i < N → 1 ≤ d i ∧ d i ≤ 255) := hd
  obtain ⟨ie, hie, hiz, his, hib⟩ := scRowL
  have O0 : Os w w.heap.size (.slice none 0 0) (liL d 0) := OwnR.nil _ _ _ _ _
  clear hp hL hN hd
  go_enter Tryz.func67, Tryz.ntmps67
  go_wp2_with fail
  go_loopw [3, 4] (fun t3 t wr => ∃ i : Nat, i ≤ N ∧ t = .int .i64 (i : Int) ∧ Os wr w.heap.size t3 (liL d i) ∧ Chg w wr []) (fun _ t _ => (N - intOf t).toNat)
  case atStart => exact ⟨0, Nat.zero_le _, rfl, O0, Chg.refl w []⟩
  case round =>
    clear O0
    obtain ⟨i, hi, rfl, O, C⟩ := hrel
    by_cases h : i < N
    · have hI : (i : Int) < (N : Int) := by omega
      have hI0 : (0 : Int) ≤ (i : Int) := by omega
      have e1 : IntKind.i64.wrap ((i : Int) + 1) = (i : Int) + 1 := by have := HN.out; rw [IntKind.wrap_i64]; omega
      have HMs : Hid _ := mN N i h
      have HI1 : Hid (i + 1 ≤ N) := h
      have HPl : Hid (0 ≤ d i ∧ d i < 9223372036854775808) := by have := HD.out i h; show 0 ≤ d i ∧ d i < 9223372036854775808; omega
      obtain ⟨g, o, rfl, hg, hF⟩ := HP.out i h
      have hF' := cell_chg hF hg C (by simp)
      have HOB : Hid (∀ i, i ∈ ob u3 → w.heap.size ≤ i) := fun i hi => (ob_own O i hi).1
      have HCz : Hid (w.heap.size ≤ wr.heap.size) := C.size
      clear hF hg h hi
      go_wp2_with fail
      refine (Place_r (d i) HPl.out _).mono ?_
      rintro e w1 ⟨rfl, k1⟩
      go_wp2_with (first
        | (with_reducible refine bslice_w ?_ 22 24 (.tmp 16) ?_ (fe (d i)) ?_ (feC (d i)) ie (.agg z32) Tryz.underlying22 hie hiz 32 his ?_ ?_ (fill_sc _) ?_
           · rfl
           · rfl
           · rfl
           · omega
           · omega
           intro gx w2 hgx Bg k2)
        | (with_reducible refine append_os ?_ (.tmp 11) (.tmp 17) ?_ w.heap.size u3 gx (liL d i) (d i) ?_ ?_ ((O.chg k1).chg k2) Bg ?_ ?_ ?_
           · rfl
           · rfl
           · rfl
           · rfl
           · rw [liL_len]; have := HN.out; have := HI1.out; omega
           · have := HCz.out; have := k1.size; have := k2.size; omega
           intro v7 w7 O7 k7))
      have C7 : Chg w w7 [] := ((C.trans1 k1).trans1 k2).trans k7 (fun i hi => Or.inr (HOB.out i hi))
      rw [← liL_s] at O7
      clear k1 k2 k7 O C Bg hgx hF'
      go_roundw
      case rel => exact ⟨i + 1, HI1.out, by go_num, O7, C7⟩
      case measure => exact HMs.out
    · obtain rfl : i = N := by omega
      have hI : ¬ (i : Int) < (i : Int) := by omega
      go_wp2_with fail
      go_ret
      exact ⟨_, rfl, O, C⟩
theorem iv_r (m : Nat) : R256 (iv (m : Int)) := r256_rl (pw_rl _ _)
theorem FromInt_1 (w : World) : Calls Tryz.prog 93 #[.int .u64 1] w fun e w' => e = .returned (fe 1) ∧ Chg w w' [] := FromInt_q 1 (by decide) w
set_option maxHeartbeats 16000000 in
set_option maxRecDepth 100000 in
theorem weight_r (v : Value) (N : Nat) (X : Nat → Int) (hR : ∀ j, j < N → R256 (X j)) (hN : N ≤ 2000000) (a : Nat) (ha : a < N) (x : Int) (rx : R256 x) (hz : ¬ LN ∣ (tpv X a (X a) N).toNat) (w : World) (hL : Ls w v N (nT X)) :
    Calls Tryz.prog 66 #[v, .int .i64 (a : Int), fe x] w fun e w' => e = .returned (fe (ml (tpv X a x N) (iv (tpv X a (X a) N)))) ∧ Chg w w' [] := by
  obtain ⟨p, cp, rfl, hp⟩ := hL.range
  have HP : Hid (∀ i, i < N → ∃ g o, p = some ⟨g, o, none⟩ ∧ g < w.heap.size ∧ w.rangeAt g (o + i * 32) (feL (X i))) := fun i hi => by
    obtain ⟨g, o, h1, h2, h3⟩ := hp i hi
    rw [nT_c _ _ (hR i hi).1] at h3
    exact ⟨g, o, h1, h2, h3⟩
  have HRX : Hid (∀ j, j < N → R256 (X j)) := hR
  have HN : Hid (N ≤ 2000000) := hN
  have HA : Hid (a < N) := ha
  have HRx : Hid (R256 x) := rx
  obtain ⟨m, hm⟩ := Int.eq_ofNat_of_zero_le (tpv_rl X a (X a) N).1
  have HMm : Hid (tpv X a (X a) N = (m : Int)) := hm
  have HMb : Hid (m < 115792089237316195423570985008687907853269984665640564039457584007913129639936) := by have := (r256_rl (tpv_rl X a (X a) N)).2; rw [hm] at this; show m < _; omega
  have HEq : Hid (eqn (cn (m : Int)) 0 = false) := by
    have hr : RL (m : Int) := hm ▸ tpv_rl X a (X a) N
    have hne : ¬ (m : Int) = 0 := fun e => hz (by rw [hm, e]; exact Nat.dvd_zero _)
    show eqn (cn (m : Int)) 0 = false
    have hq : cn (m : Int) = (m : Int) := mod_id hr
    rw [hq, eqn_eq hr rl_z, decide_eq_false hne]
  have haN : (a : Int) < (N : Int) := by omega
  have ha0 : (0 : Int) ≤ (a : Int) := by omega
  obtain ⟨vi, hvi⟩ : ∃ vi, iv (m : Int) = vi := ⟨_, rfl⟩
  have HRv : Hid (R256 vi) := by rw [← hvi]; exact iv_r m
  have HInv : Hid (∀ W, Calls Tryz.prog 104 #[fe (m : Int)] W fun e w' => e = .returned (.tuple #[fe vi, .int .i64 0]) ∧ Chg W w' []) := fun W => by rw [← hvi]; exact Invert_rnot m HMb.out HEq.out W
  obtain ⟨V, hV⟩ : ∃ V, ml (tpv X a x N) (iv (tpv X a (X a) N)) = V := ⟨_, rfl⟩
  have HV : Hid (ml (tpv X a x N) vi = V) := by show ml (tpv X a x N) vi = V; rw [← hV, hm, hvi]
  rw [hV]
  clear hp hL hR hN ha rx hm hz hV hvi HEq HMb
  go_enter Tryz.func66, Tryz.ntmps66
  go_wp2_with (first
    | (with_reducible refine alloc_w rfl 24 rfl (.agg z32) zeroSc z32 rfl ?_; intro rb w2 hrb Br k2)
    | (refine box_w rfl 24 _ rfl (feC x) rfl ?_; intro xb w1 hxb Bx k1))
  have C : Chg w w2 [] := k1.trans1 k2
  have HR0 : Hid (w.heap.size ≤ rb) := by have := k1.size; show w.heap.size ≤ rb; omega
  have HXR : Hid (¬ xb ∈ [rb]) := by have := Bx.lt; show ¬ xb ∈ [rb]; simp; omega
  replace Bx := Bx.chg k2 (by simp)
  clear k1 k2 hxb hrb
  refine (FromInt_1 _).mono ?_
  rintro e w3 ⟨rfl, k⟩
  replace C := C.trans1 k
  replace Bx := Bx.chg k (by simp)
  replace Br := Br.chg k (by simp)
  clear k
  go_upto_region 2 with (first
    | (with_reducible refine alloc_w rfl 24 rfl (.agg z32) zeroSc z32 rfl ?_; intro tb w4 htb Bt0 k4)
    | (refine store_w Bt0 rfl 24 _ _ (feC (tpv X a x 0)) rfl rfl rfl feInfo rfl (feC_one _) ?_; intro w5 Bt k5))
  have HTB1 : Hid (w.heap.size ≤ tb) := by have := C.size; show w.heap.size ≤ tb; omega
  have HXT : Hid (¬ xb ∈ [tb]) := by have := Bx.lt; show ¬ xb ∈ [tb]; simp; omega
  have HRT : Hid (¬ rb ∈ [tb]) := by have := Br.lt; show ¬ rb ∈ [tb]; simp; omega
  have HTR : Hid (¬ tb ∈ [rb]) := by have := Br.lt; show ¬ tb ∈ [rb]; simp; omega
  replace C := (C.trans1 k4).new k5 HTB1.out
  replace Bx := (Bx.chg k4 (by simp)).chg k5 HXT.out
  replace Br := (Br.chg k4 (by simp)).chg k5 HRT.out
  clear k4 k5 Bt0 htb
  go_wp2_with fail
  refine (FromInt_1 _).mono ?_
  rintro e w6 ⟨rfl, k⟩
  replace C := C.trans1 k
  replace Bx := Bx.chg k (by simp)
  replace Br := Br.chg k (by simp)
  replace Bt := Bt.chg k (by simp)
  clear k
  go_upto_region 3 with (first
    | (with_reducible refine alloc_w rfl 24 rfl (.agg z32) zeroSc z32 rfl ?_; intro bb w7 hbb Bb0 k7)
    | (refine store_w Bb0 rfl 24 _ _ (feC (tpv X a (X a) 0)) rfl rfl rfl feInfo rfl (feC_one _) ?_; intro w8 Bb k8))
  have HBB : Hid (w.heap.size ≤ bb) := by have := C.size; show w.heap.size ≤ bb; omega
  have HXB : Hid (¬ xb ∈ [bb]) := by have := Bx.lt; show ¬ xb ∈ [bb]; simp; omega
  have HRB2 : Hid (¬ rb ∈ [bb]) := by have := Br.lt; show ¬ rb ∈ [bb]; simp; omega
  have HTB : Hid (¬ tb ∈ [bb]) := by have := Bt.lt; show ¬ tb ∈ [bb]; simp; omega
  have HBT : Hid (¬ bb ∈ [tb]) := by have := Bt.lt; show ¬ bb ∈ [tb]; simp; omega
  replace C := (C.trans1 k7).new k8 HBB.out
  replace Bx := (Bx.chg k7 (by simp)).chg k8 HXB.out
  replace Br := (Br.chg k7 (by simp)).chg k8 HRB2.out
  replace Bt := (Bt.chg k7 (by simp)).chg k8 HTB.out
  clear k7 k8 Bb0 hbb
  go_wp2_with fail
  go_loopw [9] (fun t wr => ∃ i : Nat, i ≤ N ∧ t = .int .i64 (i : Int) ∧ Blk wr tb (feC (tpv X a x i)) 24 ∧ Blk wr bb (feC (tpv X a (X a) i)) 24 ∧ Blk wr xb (feC x) 24 ∧ Blk wr rb z32 24 ∧ Chg w wr []) (fun t _ => (N - intOf t).toNat)
  case atStart => exact ⟨0, Nat.zero_le _, rfl, Bt, Bb, Bx, Br, C⟩
  case round =>
    clear Bt Bb Bx Br C
    obtain ⟨i, hi, rfl, Bt, Bb, Bx, Br, C⟩ := hrel
    by_cases h : i < N
    · have hI : (i : Int) < (N : Int) := by omega
      have hI0 : (0 : Int) ≤ (i : Int) := by omega
      have e1 : IntKind.i64.wrap ((i : Int) + 1) = (i : Int) + 1 := by have := HN.out; rw [IntKind.wrap_i64]; omega
      have HMs : Hid _ := mN N i h
      have HI : Hid (i < N) := h
      by_cases hia : i = a
      · subst hia
        have hb : ((i : Int) != (i : Int)) = false := by simp
        rw [← tpv_at] at Bt Bb
        clear h hi
        go_wp2_with fail
        go_roundw
        case rel => exact ⟨i + 1, HI.out, by go_num, Bt, Bb, Bx, Br, C⟩
        case measure => exact HMs.out
      · have hb : ((i : Int) != (a : Int)) = true := by simp; omega
        have hia2 : ¬ (i : Int) = (a : Int) := by omega
        have HT1 : Hid (tpv X a x (i + 1) = ml (tpv X a x i) (sb x (X i))) := tpv_other X a x i hia
        have HT2 : Hid (tpv X a (X a) (i + 1) = ml (tpv X a (X a) i) (sb (X a) (X i))) := tpv_other X a (X a) i hia
        have HRi : Hid (R256 (X i)) := HRX.out i h
        have HRA : Hid (R256 (X a)) := HRX.out a HA.out
        obtain ⟨gp, o, rfl, hg, hF⟩ := HP.out i h
        obtain ⟨gp', o', hpe, _, hFA⟩ := HP.out a HA.out
        simp only [Option.some.injEq, Addr.mk.injEq, and_true] at hpe
        obtain ⟨rfl, rfl⟩ := hpe
        have hF' := rangeAt_chg hF hg C (by simp)
        have hA' := rangeAt_chg hFA hg C (by simp)
        have HGl : Hid (gp < wr.heap.size) := Nat.lt_of_lt_of_le hg C.size
        have HGT : Hid (¬ gp ∈ [tb]) := by have := HTB1.out; show ¬ gp ∈ [tb]; simp; omega
        have HGB : Hid (¬ gp ∈ [bb]) := by have := HBB.out; show ¬ gp ∈ [bb]; simp; omega
        clear hF hFA hg h hi hia
        go_wp2_with fail
        refine wp_region_held_drew (S := fun w' => Chg wr w' [tb]) (by kernel_rfl) ((Chg.refl wr _).drew) (fun hHeld => ?_)
        replace Bt : Blk wr.drew tb (feC (tpv X a x i)) 24 := Bt
        refine take_load 1 (some 24) (feC x) rfl (by kernel_rfl) (by kernel_rfl) (by kernel_rfl) (fun _ _ _ h => h) rfl rfl 24 _ rfl xb rfl 24 _ (fun w h => Bx.chg h HXT.out) Tryz.underlying24 rfl (by first | exact feInfo | kernel_rfl) hHeld ?_
        try simp only [Act.put, List.setIfInBounds_toArray, List.set_cons_zero, List.set_cons_succ]
        refine take_val (v := ?_) 2 (some 25) rfl (by kernel_rfl) (by kernel_rfl) (by kernel_rfl) (fun _ _ _ h => h) rfl rfl (fun w hSw => ?_) hHeld ?_
        rotate_left
        · (go_simp; try with_reducible rfl)
        try simp only [Act.put, List.setIfInBounds_toArray, List.set_cons_zero, List.set_cons_succ]
        refine take_val (v := ?_) 3 (some 26) rfl (by kernel_rfl) (by kernel_rfl) (by kernel_rfl) (fun _ _ _ h => h) rfl rfl (fun w hSw => ?_) hHeld ?_
        rotate_left
        · (go_simp; try with_reducible rfl)
        try simp only [Act.put, List.setIfInBounds_toArray, List.set_cons_zero, List.set_cons_succ]
        refine take_val (v := ?_) 4 (some 27) rfl (by kernel_rfl) (by kernel_rfl) (by kernel_rfl) (fun _ _ _ h => h) rfl rfl (fun w hSw => ?_) hHeld ?_
        rotate_left
        · (go_simp; try with_reducible rfl)
        try simp only [Act.put, List.setIfInBounds_toArray, List.set_cons_zero, List.set_cons_succ]
        refine take_val (v := (.agg (feC (X i)))) 5 (some 28) rfl (by kernel_rfl) (by kernel_rfl) (by kernel_rfl) (fun _ _ _ h => h) rfl rfl (fun w hSw => ?_) hHeld ?_
        · exact exec_load_m w 24 _ rfl gp (o + i * 32) rfl (feL (X i)) _ (rangeAt_chg hF' HGl.out hSw HGT.out) Tryz.underlying24 rfl feInfo
        try simp only [Act.put, List.setIfInBounds_toArray, List.set_cons_zero, List.set_cons_succ]
        refine wpAnyH_ready (rs := [0, 6]) (by kernel_rfl) (by simp) ?_
        refine AllReadyH.cons (o := _) rfl (fun K hK => ?_) ?_
        ·
          rw [if_pos (by rfl)]
          refine wp_load_mid 24 _ rfl tb (0) rfl (feL (tpv X a x i)) _ (blk_range Bt) Tryz.underlying24 rfl feInfo ?_
          refine hK.out _ _ (hHeld) (fun hHeld => ?_)
          clear hK K
          try simp only [Act.put, List.setIfInBounds_toArray, List.set_cons_zero, List.set_cons_succ]
          refine wpAnyH_ready (rs := [6]) (by kernel_rfl) (by simp) ?_
          refine AllReadyH.cons (o := _) rfl (fun K hK => ?_) ?_
          ·
            go_simp
            refine (Sub_q _ _ HRx.out HRi.out _).mono ?_
            rintro e w5 ⟨rfl, k⟩
            replace Bt := Bt.chg k (by simp)
            go_wp2_with fail
            refine hK.out _ _ (hHeld.trans1 k.wide) (fun hHeld => ?_)
            clear hK K
            try simp only [Act.put, List.setIfInBounds_toArray, List.set_cons_zero, List.set_cons_succ]
            clear k
            refine wpAnyH_ready (rs := [7]) (by kernel_rfl) (by simp) ?_
            refine AllReadyH.cons (o := _) rfl (fun K hK => ?_) ?_
            ·
              go_simp
              refine (Mul_q _ _ (r256_rl (tpv_rl X a x i)) (r256_mod _) _).mono ?_
              rintro e w5 ⟨rfl, k⟩
              replace Bt := Bt.chg k (by simp)
              go_wp2_with fail
              refine hK.out _ _ (hHeld.trans1 k.wide) (fun hHeld => ?_)
              clear hK K
              try simp only [Act.put, List.setIfInBounds_toArray, List.set_cons_zero, List.set_cons_succ]
              clear k
              refine wpAnyH_ready (rs := [8]) (by kernel_rfl) (by simp) ?_
              refine AllReadyH.cons (o := _) rfl (fun K hK => ?_) ?_
              ·
                rw [if_pos (by rfl)]
                refine wp_store_w Bt 24 _ _ (feC (ml (tpv X a x i) (sb x (X i)))) rfl rfl rfl feInfo rfl (feC_one _) ?_
                intro w7 B7 k6
                rw [← HT1.out] at B7
                refine hK.out _ _ (hHeld.trans1 k6) (fun hHeld => ?_)
                clear hK K
                try simp only [Act.put, List.setIfInBounds_toArray, List.set_cons_zero, List.set_cons_succ]
                refine wpAnyH_done (by kernel_rfl) ?_ _
                have hF7 := rangeAt_chg hF' HGl.out hHeld HGT.out
                have hA7 := rangeAt_chg hA' HGl.out hHeld HGT.out
                have HG7 : Hid (gp < w7.heap.size) := Nat.lt_of_lt_of_le HGl.out hHeld.size
                replace C := C.new hHeld HTB1.out
                replace Bb := Bb.chg hHeld HBT.out
                replace Bx := Bx.chg hHeld HXT.out
                replace Br := Br.chg hHeld HRT.out
                clear Bt k6 hHeld hF' hA'
                rename Blk w7 tb _ _ => Bt
                go_wp2_with fail
                refine wp_region_held_drew (S := fun w' => Chg w7 w' [bb]) (by kernel_rfl) ((Chg.refl w7 _).drew) (fun hHeld => ?_)
                replace Bb : Blk w7.drew bb (feC (tpv X a (X a) i)) 24 := Bb
                refine take_val (v := ?_) 1 (some 32) rfl (by kernel_rfl) (by kernel_rfl) (by kernel_rfl) (fun _ _ _ h => h) rfl rfl (fun w hSw => ?_) hHeld ?_
                rotate_left
                · (go_simp; try with_reducible rfl)
                try simp only [Act.put, List.setIfInBounds_toArray, List.set_cons_zero, List.set_cons_succ]
                refine take_val (v := ?_) 2 (some 33) rfl (by kernel_rfl) (by kernel_rfl) (by kernel_rfl) (fun _ _ _ h => h) rfl rfl (fun w hSw => ?_) hHeld ?_
                rotate_left
                · (go_simp; try with_reducible rfl)
                try simp only [Act.put, List.setIfInBounds_toArray, List.set_cons_zero, List.set_cons_succ]
                refine take_val (v := ?_) 3 (some 34) rfl (by kernel_rfl) (by kernel_rfl) (by kernel_rfl) (fun _ _ _ h => h) rfl rfl (fun w hSw => ?_) hHeld ?_
                rotate_left
                · (go_simp; try with_reducible rfl)
                try simp only [Act.put, List.setIfInBounds_toArray, List.set_cons_zero, List.set_cons_succ]
                refine take_val (v := (.agg (feC (X a)))) 4 (some 35) rfl (by kernel_rfl) (by kernel_rfl) (by kernel_rfl) (fun _ _ _ h => h) rfl rfl (fun w hSw => ?_) hHeld ?_
                · exact exec_load_m w 24 _ rfl gp (o + a * 32) rfl (feL (X a)) _ (rangeAt_chg hA7 HG7.out hSw HGB.out) Tryz.underlying24 rfl feInfo
                try simp only [Act.put, List.setIfInBounds_toArray, List.set_cons_zero, List.set_cons_succ]
                refine take_val (v := ?_) 5 (some 36) rfl (by kernel_rfl) (by kernel_rfl) (by kernel_rfl) (fun _ _ _ h => h) rfl rfl (fun w hSw => ?_) hHeld ?_
                rotate_left
                · (go_simp; try with_reducible rfl)
                try simp only [Act.put, List.setIfInBounds_toArray, List.set_cons_zero, List.set_cons_succ]
                refine take_val (v := ?_) 6 (some 37) rfl (by kernel_rfl) (by kernel_rfl) (by kernel_rfl) (fun _ _ _ h => h) rfl rfl (fun w hSw => ?_) hHeld ?_
                rotate_left
                · (go_simp; try with_reducible rfl)
                try simp only [Act.put, List.setIfInBounds_toArray, List.set_cons_zero, List.set_cons_succ]
                refine take_val (v := ?_) 7 (some 38) rfl (by kernel_rfl) (by kernel_rfl) (by kernel_rfl) (fun _ _ _ h => h) rfl rfl (fun w hSw => ?_) hHeld ?_
                rotate_left
                · (go_simp; try with_reducible rfl)
                try simp only [Act.put, List.setIfInBounds_toArray, List.set_cons_zero, List.set_cons_succ]
                refine take_val (v := (.agg (feC (X i)))) 8 (some 39) rfl (by kernel_rfl) (by kernel_rfl) (by kernel_rfl) (fun _ _ _ h => h) rfl rfl (fun w hSw => ?_) hHeld ?_
                · exact exec_load_m w 24 _ rfl gp (o + i * 32) rfl (feL (X i)) _ (rangeAt_chg hF7 HG7.out hSw HGB.out) Tryz.underlying24 rfl feInfo
                try simp only [Act.put, List.setIfInBounds_toArray, List.set_cons_zero, List.set_cons_succ]
                refine wpAnyH_ready (rs := [0, 9]) (by kernel_rfl) (by simp) ?_
                refine AllReadyH.cons (o := _) rfl (fun K hK => ?_) ?_
                ·
                  rw [if_pos (by rfl)]
                  refine wp_load_mid 24 _ rfl bb (0) rfl (feL (tpv X a (X a) i)) _ (blk_range Bb) Tryz.underlying24 rfl feInfo ?_
                  refine hK.out _ _ (hHeld) (fun hHeld => ?_)
                  clear hK K
                  try simp only [Act.put, List.setIfInBounds_toArray, List.set_cons_zero, List.set_cons_succ]
                  refine wpAnyH_ready (rs := [9]) (by kernel_rfl) (by simp) ?_
                  refine AllReadyH.cons (o := _) rfl (fun K hK => ?_) ?_
                  ·
                    go_simp
                    refine (Sub_q _ _ HRA.out HRi.out _).mono ?_
                    rintro e w5 ⟨rfl, k⟩
                    replace Bb := Bb.chg k (by simp)
                    go_wp2_with fail
                    refine hK.out _ _ (hHeld.trans1 k.wide) (fun hHeld => ?_)
                    clear hK K
                    try simp only [Act.put, List.setIfInBounds_toArray, List.set_cons_zero, List.set_cons_succ]
                    clear k
                    refine wpAnyH_ready (rs := [10]) (by kernel_rfl) (by simp) ?_
                    refine AllReadyH.cons (o := _) rfl (fun K hK => ?_) ?_
                    ·
                      go_simp
                      refine (Mul_q _ _ (r256_rl (tpv_rl X a (X a) i)) (r256_mod _) _).mono ?_
                      rintro e w5 ⟨rfl, k⟩
                      replace Bb := Bb.chg k (by simp)
                      go_wp2_with fail
                      refine hK.out _ _ (hHeld.trans1 k.wide) (fun hHeld => ?_)
                      clear hK K
                      try simp only [Act.put, List.setIfInBounds_toArray, List.set_cons_zero, List.set_cons_succ]
                      clear k
                      refine wpAnyH_ready (rs := [11]) (by kernel_rfl) (by simp) ?_
                      refine AllReadyH.cons (o := _) rfl (fun K hK => ?_) ?_
                      ·
                        rw [if_pos (by rfl)]
                        refine wp_store_w Bb 24 _ _ (feC (ml (tpv X a (X a) i) (sb (X a) (X i)))) rfl rfl rfl feInfo rfl (feC_one _) ?_
                        intro w8 B8 k8
                        rw [← HT2.out] at B8
                        refine hK.out _ _ (hHeld.trans1 k8) (fun hHeld => ?_)
                        clear hK K
                        try simp only [Act.put, List.setIfInBounds_toArray, List.set_cons_zero, List.set_cons_succ]
                        refine wpAnyH_done (by kernel_rfl) ?_ _
                        replace C := C.new hHeld HBB.out
                        replace Bt := Bt.chg hHeld HTB.out
                        replace Bx := Bx.chg hHeld HXB.out
                        replace Br := Br.chg hHeld HRB2.out
                        clear Bb k8 hHeld hF7 hA7
                        go_wp2_with fail
                        go_roundw
                        case rel => exact ⟨i + 1, HI.out, by go_num, Bt, B8, Bx, Br, C⟩
                        case measure => exact HMs.out
                      exact AllReadyH.nil
                    exact AllReadyH.nil
                  exact AllReadyH.nil
                refine AllReadyH.cons (o := _) rfl (fun K hK => ?_) ?_
                ·
                  go_simp
                  refine (Sub_q _ _ HRA.out HRi.out _).mono ?_
                  rintro e w5 ⟨rfl, k⟩
                  replace Bb := Bb.chg k (by simp)
                  go_wp2_with fail
                  refine hK.out _ _ (hHeld.trans1 k.wide) (fun hHeld => ?_)
                  clear hK K
                  try simp only [Act.put, List.setIfInBounds_toArray, List.set_cons_zero, List.set_cons_succ]
                  clear k
                  refine wpAnyH_ready (rs := [0]) (by kernel_rfl) (by simp) ?_
                  refine AllReadyH.cons (o := _) rfl (fun K hK => ?_) ?_
                  ·
                    rw [if_pos (by rfl)]
                    refine wp_load_mid 24 _ rfl bb (0) rfl (feL (tpv X a (X a) i)) _ (blk_range Bb) Tryz.underlying24 rfl feInfo ?_
                    refine hK.out _ _ (hHeld) (fun hHeld => ?_)
                    clear hK K
                    try simp only [Act.put, List.setIfInBounds_toArray, List.set_cons_zero, List.set_cons_succ]
                    refine wpAnyH_ready (rs := [10]) (by kernel_rfl) (by simp) ?_
                    refine AllReadyH.cons (o := _) rfl (fun K hK => ?_) ?_
                    ·
                      go_simp
                      refine (Mul_q _ _ (r256_rl (tpv_rl X a (X a) i)) (r256_mod _) _).mono ?_
                      rintro e w5 ⟨rfl, k⟩
                      replace Bb := Bb.chg k (by simp)
                      go_wp2_with fail
                      refine hK.out _ _ (hHeld.trans1 k.wide) (fun hHeld => ?_)
                      clear hK K
                      try simp only [Act.put, List.setIfInBounds_toArray, List.set_cons_zero, List.set_cons_succ]
                      clear k
                      refine wpAnyH_ready (rs := [11]) (by kernel_rfl) (by simp) ?_
                      refine AllReadyH.cons (o := _) rfl (fun K hK => ?_) ?_
                      ·
                        rw [if_pos (by rfl)]
                        refine wp_store_w Bb 24 _ _ (feC (ml (tpv X a (X a) i) (sb (X a) (X i)))) rfl rfl rfl feInfo rfl (feC_one _) ?_
                        intro w8 B8 k8
                        rw [← HT2.out] at B8
                        refine hK.out _ _ (hHeld.trans1 k8) (fun hHeld => ?_)
                        clear hK K
                        try simp only [Act.put, List.setIfInBounds_toArray, List.set_cons_zero, List.set_cons_succ]
                        refine wpAnyH_done (by kernel_rfl) ?_ _
                        replace C := C.new hHeld HBB.out
                        replace Bt := Bt.chg hHeld HTB.out
                        replace Bx := Bx.chg hHeld HXB.out
                        replace Br := Br.chg hHeld HRB2.out
                        clear Bb k8 hHeld hF7 hA7
                        go_wp2_with fail
                        go_roundw
                        case rel => exact ⟨i + 1, HI.out, by go_num, Bt, B8, Bx, Br, C⟩
                        case measure => exact HMs.out
                      exact AllReadyH.nil
                    exact AllReadyH.nil
                  exact AllReadyH.nil
                exact AllReadyH.nil
              exact AllReadyH.nil
            exact AllReadyH.nil
          exact AllReadyH.nil
        refine AllReadyH.cons (o := _) rfl (fun K hK => ?_) ?_
        ·
          go_simp
          refine (Sub_q _ _ HRx.out HRi.out _).mono ?_
          rintro e w5 ⟨rfl, k⟩
          replace Bt := Bt.chg k (by simp)
          go_wp2_with fail
          refine hK.out _ _ (hHeld.trans1 k.wide) (fun hHeld => ?_)
          clear hK K
          try simp only [Act.put, List.setIfInBounds_toArray, List.set_cons_zero, List.set_cons_succ]
          clear k
          refine wpAnyH_ready (rs := [0]) (by kernel_rfl) (by simp) ?_
          refine AllReadyH.cons (o := _) rfl (fun K hK => ?_) ?_
          ·
            rw [if_pos (by rfl)]
            refine wp_load_mid 24 _ rfl tb (0) rfl (feL (tpv X a x i)) _ (blk_range Bt) Tryz.underlying24 rfl feInfo ?_
            refine hK.out _ _ (hHeld) (fun hHeld => ?_)
            clear hK K
            try simp only [Act.put, List.setIfInBounds_toArray, List.set_cons_zero, List.set_cons_succ]
            refine wpAnyH_ready (rs := [7]) (by kernel_rfl) (by simp) ?_
            refine AllReadyH.cons (o := _) rfl (fun K hK => ?_) ?_
            ·
              go_simp
              refine (Mul_q _ _ (r256_rl (tpv_rl X a x i)) (r256_mod _) _).mono ?_
              rintro e w5 ⟨rfl, k⟩
              replace Bt := Bt.chg k (by simp)
              go_wp2_with fail
              refine hK.out _ _ (hHeld.trans1 k.wide) (fun hHeld => ?_)
              clear hK K
              try simp only [Act.put, List.setIfInBounds_toArray, List.set_cons_zero, List.set_cons_succ]
              clear k
              refine wpAnyH_ready (rs := [8]) (by kernel_rfl) (by simp) ?_
              refine AllReadyH.cons (o := _) rfl (fun K hK => ?_) ?_
              ·
                rw [if_pos (by rfl)]
                refine wp_store_w Bt 24 _ _ (feC (ml (tpv X a x i) (sb x (X i)))) rfl rfl rfl feInfo rfl (feC_one _) ?_
                intro w7 B7 k6
                rw [← HT1.out] at B7
                refine hK.out _ _ (hHeld.trans1 k6) (fun hHeld => ?_)
                clear hK K
                try simp only [Act.put, List.setIfInBounds_toArray, List.set_cons_zero, List.set_cons_succ]
                refine wpAnyH_done (by kernel_rfl) ?_ _
                have hF7 := rangeAt_chg hF' HGl.out hHeld HGT.out
                have hA7 := rangeAt_chg hA' HGl.out hHeld HGT.out
                have HG7 : Hid (gp < w7.heap.size) := Nat.lt_of_lt_of_le HGl.out hHeld.size
                replace C := C.new hHeld HTB1.out
                replace Bb := Bb.chg hHeld HBT.out
                replace Bx := Bx.chg hHeld HXT.out
                replace Br := Br.chg hHeld HRT.out
                clear Bt k6 hHeld hF' hA'
                rename Blk w7 tb _ _ => Bt
                go_wp2_with fail
                refine wp_region_held_drew (S := fun w' => Chg w7 w' [bb]) (by kernel_rfl) ((Chg.refl w7 _).drew) (fun hHeld => ?_)
                replace Bb : Blk w7.drew bb (feC (tpv X a (X a) i)) 24 := Bb
                refine take_val (v := ?_) 1 (some 32) rfl (by kernel_rfl) (by kernel_rfl) (by kernel_rfl) (fun _ _ _ h => h) rfl rfl (fun w hSw => ?_) hHeld ?_
                rotate_left
                · (go_simp; try with_reducible rfl)
                try simp only [Act.put, List.setIfInBounds_toArray, List.set_cons_zero, List.set_cons_succ]
                refine take_val (v := ?_) 2 (some 33) rfl (by kernel_rfl) (by kernel_rfl) (by kernel_rfl) (fun _ _ _ h => h) rfl rfl (fun w hSw => ?_) hHeld ?_
                rotate_left
                · (go_simp; try with_reducible rfl)
                try simp only [Act.put, List.setIfInBounds_toArray, List.set_cons_zero, List.set_cons_succ]
                refine take_val (v := ?_) 3 (some 34) rfl (by kernel_rfl) (by kernel_rfl) (by kernel_rfl) (fun _ _ _ h => h) rfl rfl (fun w hSw => ?_) hHeld ?_
                rotate_left
                · (go_simp; try with_reducible rfl)
                try simp only [Act.put, List.setIfInBounds_toArray, List.set_cons_zero, List.set_cons_succ]
                refine take_val (v := (.agg (feC (X a)))) 4 (some 35) rfl (by kernel_rfl) (by kernel_rfl) (by kernel_rfl) (fun _ _ _ h => h) rfl rfl (fun w hSw => ?_) hHeld ?_
                · exact exec_load_m w 24 _ rfl gp (o + a * 32) rfl (feL (X a)) _ (rangeAt_chg hA7 HG7.out hSw HGB.out) Tryz.underlying24 rfl feInfo
                try simp only [Act.put, List.setIfInBounds_toArray, List.set_cons_zero, List.set_cons_succ]
                refine take_val (v := ?_) 5 (some 36) rfl (by kernel_rfl) (by kernel_rfl) (by kernel_rfl) (fun _ _ _ h => h) rfl rfl (fun w hSw => ?_) hHeld ?_
                rotate_left
                · (go_simp; try with_reducible rfl)
                try simp only [Act.put, List.setIfInBounds_toArray, List.set_cons_zero, List.set_cons_succ]
                refine take_val (v := ?_) 6 (some 37) rfl (by kernel_rfl) (by kernel_rfl) (by kernel_rfl) (fun _ _ _ h => h) rfl rfl (fun w hSw => ?_) hHeld ?_
                rotate_left
                · (go_simp; try with_reducible rfl)
                try simp only [Act.put, List.setIfInBounds_toArray, List.set_cons_zero, List.set_cons_succ]
                refine take_val (v := ?_) 7 (some 38) rfl (by kernel_rfl) (by kernel_rfl) (by kernel_rfl) (fun _ _ _ h => h) rfl rfl (fun w hSw => ?_) hHeld ?_
                rotate_left
                · (go_simp; try with_reducible rfl)
                try simp only [Act.put, List.setIfInBounds_toArray, List.set_cons_zero, List.set_cons_succ]
                refine take_val (v := (.agg (feC (X i)))) 8 (some 39) rfl (by kernel_rfl) (by kernel_rfl) (by kernel_rfl) (fun _ _ _ h => h) rfl rfl (fun w hSw => ?_) hHeld ?_
                · exact exec_load_m w 24 _ rfl gp (o + i * 32) rfl (feL (X i)) _ (rangeAt_chg hF7 HG7.out hSw HGB.out) Tryz.underlying24 rfl feInfo
                try simp only [Act.put, List.setIfInBounds_toArray, List.set_cons_zero, List.set_cons_succ]
                refine wpAnyH_ready (rs := [0, 9]) (by kernel_rfl) (by simp) ?_
                refine AllReadyH.cons (o := _) rfl (fun K hK => ?_) ?_
                ·
                  rw [if_pos (by rfl)]
                  refine wp_load_mid 24 _ rfl bb (0) rfl (feL (tpv X a (X a) i)) _ (blk_range Bb) Tryz.underlying24 rfl feInfo ?_
                  refine hK.out _ _ (hHeld) (fun hHeld => ?_)
                  clear hK K
                  try simp only [Act.put, List.setIfInBounds_toArray, List.set_cons_zero, List.set_cons_succ]
                  refine wpAnyH_ready (rs := [9]) (by kernel_rfl) (by simp) ?_
                  refine AllReadyH.cons (o := _) rfl (fun K hK => ?_) ?_
                  ·
                    go_simp
                    refine (Sub_q _ _ HRA.out HRi.out _).mono ?_
                    rintro e w5 ⟨rfl, k⟩
                    replace Bb := Bb.chg k (by simp)
                    go_wp2_with fail
                    refine hK.out _ _ (hHeld.trans1 k.wide) (fun hHeld => ?_)
                    clear hK K
                    try simp only [Act.put, List.setIfInBounds_toArray, List.set_cons_zero, List.set_cons_succ]
                    clear k
                    refine wpAnyH_ready (rs := [10]) (by kernel_rfl) (by simp) ?_
                    refine AllReadyH.cons (o := _) rfl (fun K hK => ?_) ?_
                    ·
                      go_simp
                      refine (Mul_q _ _ (r256_rl (tpv_rl X a (X a) i)) (r256_mod _) _).mono ?_
                      rintro e w5 ⟨rfl, k⟩
                      replace Bb := Bb.chg k (by simp)
                      go_wp2_with fail
                      refine hK.out _ _ (hHeld.trans1 k.wide) (fun hHeld => ?_)
                      clear hK K
                      try simp only [Act.put, List.setIfInBounds_toArray, List.set_cons_zero, List.set_cons_succ]
                      clear k
                      refine wpAnyH_ready (rs := [11]) (by kernel_rfl) (by simp) ?_
                      refine AllReadyH.cons (o := _) rfl (fun K hK => ?_) ?_
                      ·
                        rw [if_pos (by rfl)]
                        refine wp_store_w Bb 24 _ _ (feC (ml (tpv X a (X a) i) (sb (X a) (X i)))) rfl rfl rfl feInfo rfl (feC_one _) ?_
                        intro w8 B8 k8
                        rw [← HT2.out] at B8
                        refine hK.out _ _ (hHeld.trans1 k8) (fun hHeld => ?_)
                        clear hK K
                        try simp only [Act.put, List.setIfInBounds_toArray, List.set_cons_zero, List.set_cons_succ]
                        refine wpAnyH_done (by kernel_rfl) ?_ _
                        replace C := C.new hHeld HBB.out
                        replace Bt := Bt.chg hHeld HTB.out
                        replace Bx := Bx.chg hHeld HXB.out
                        replace Br := Br.chg hHeld HRB2.out
                        clear Bb k8 hHeld hF7 hA7
                        go_wp2_with fail
                        go_roundw
                        case rel => exact ⟨i + 1, HI.out, by go_num, Bt, B8, Bx, Br, C⟩
                        case measure => exact HMs.out
                      exact AllReadyH.nil
                    exact AllReadyH.nil
                  exact AllReadyH.nil
                refine AllReadyH.cons (o := _) rfl (fun K hK => ?_) ?_
                ·
                  go_simp
                  refine (Sub_q _ _ HRA.out HRi.out _).mono ?_
                  rintro e w5 ⟨rfl, k⟩
                  replace Bb := Bb.chg k (by simp)
                  go_wp2_with fail
                  refine hK.out _ _ (hHeld.trans1 k.wide) (fun hHeld => ?_)
                  clear hK K
                  try simp only [Act.put, List.setIfInBounds_toArray, List.set_cons_zero, List.set_cons_succ]
                  clear k
                  refine wpAnyH_ready (rs := [0]) (by kernel_rfl) (by simp) ?_
                  refine AllReadyH.cons (o := _) rfl (fun K hK => ?_) ?_
                  ·
                    rw [if_pos (by rfl)]
                    refine wp_load_mid 24 _ rfl bb (0) rfl (feL (tpv X a (X a) i)) _ (blk_range Bb) Tryz.underlying24 rfl feInfo ?_
                    refine hK.out _ _ (hHeld) (fun hHeld => ?_)
                    clear hK K
                    try simp only [Act.put, List.setIfInBounds_toArray, List.set_cons_zero, List.set_cons_succ]
                    refine wpAnyH_ready (rs := [10]) (by kernel_rfl) (by simp) ?_
                    refine AllReadyH.cons (o := _) rfl (fun K hK => ?_) ?_
                    ·
                      go_simp
                      refine (Mul_q _ _ (r256_rl (tpv_rl X a (X a) i)) (r256_mod _) _).mono ?_
                      rintro e w5 ⟨rfl, k⟩
                      replace Bb := Bb.chg k (by simp)
                      go_wp2_with fail
                      refine hK.out _ _ (hHeld.trans1 k.wide) (fun hHeld => ?_)
                      clear hK K
                      try simp only [Act.put, List.setIfInBounds_toArray, List.set_cons_zero, List.set_cons_succ]
                      clear k
                      refine wpAnyH_ready (rs := [11]) (by kernel_rfl) (by simp) ?_
                      refine AllReadyH.cons (o := _) rfl (fun K hK => ?_) ?_
                      ·
                        rw [if_pos (by rfl)]
                        refine wp_store_w Bb 24 _ _ (feC (ml (tpv X a (X a) i) (sb (X a) (X i)))) rfl rfl rfl feInfo rfl (feC_one _) ?_
                        intro w8 B8 k8
                        rw [← HT2.out] at B8
                        refine hK.out _ _ (hHeld.trans1 k8) (fun hHeld => ?_)
                        clear hK K
                        try simp only [Act.put, List.setIfInBounds_toArray, List.set_cons_zero, List.set_cons_succ]
                        refine wpAnyH_done (by kernel_rfl) ?_ _
                        replace C := C.new hHeld HBB.out
                        replace Bt := Bt.chg hHeld HTB.out
                        replace Bx := Bx.chg hHeld HXB.out
                        replace Br := Br.chg hHeld HRB2.out
                        clear Bb k8 hHeld hF7 hA7
                        go_wp2_with fail
                        go_roundw
                        case rel => exact ⟨i + 1, HI.out, by go_num, Bt, B8, Bx, Br, C⟩
                        case measure => exact HMs.out
                      exact AllReadyH.nil
                    exact AllReadyH.nil
                  exact AllReadyH.nil
                exact AllReadyH.nil
              exact AllReadyH.nil
            exact AllReadyH.nil
          exact AllReadyH.nil
        exact AllReadyH.nil
    · obtain rfl : N = i := by omega
      have hI : ¬ (N : Int) < (N : Int) := by omega
      rw [HMm.out] at Bb
      clear h hi Bx
      go_wp2_with (first
        | (with_reducible refine load_b Bb 24 (.tmp 8) Tryz.underlying24 ?_ ?_ ?_ ?_ ?_ ?_
           · rfl
           · rfl
           · rfl
           · rfl
           · exact feInfo))
      refine (HInv.out _).mono ?_
      rintro e w3 ⟨rfl, k⟩
      replace C := C.trans1 k
      replace Br := Br.chg k (by simp)
      replace Bt := Bt.chg k (by simp)
      clear k Bb
      go_upto_region 10 with (first
        | (with_reducible refine alloc_w rfl 24 rfl (.agg z32) zeroSc z32 rfl ?_; intro vb w4 hvb Bv0 k4)
        | (refine store_w Bv0 rfl 24 _ _ (feC vi) rfl rfl rfl feInfo rfl (feC_one _) ?_; intro w5 Bv k5))
      have HVB : Hid (w.heap.size ≤ vb) := by have := C.size; show w.heap.size ≤ vb; omega
      replace Br := (Br.chg k4 (by simp)).chg k5 (by have := Br.lt; simp; omega)
      replace Bt := (Bt.chg k4 (by simp)).chg k5 (by have := Bt.lt; simp; omega)
      replace C := (C.trans1 k4).new k5 HVB.out
      clear k4 k5 Bv0 hvb
      go_wp2_with (first
        | (with_reducible refine load_b Bt 24 (.tmp 7) Tryz.underlying24 ?_ ?_ ?_ ?_ ?_ ?_
           · rfl
           · rfl
           · rfl
           · rfl
           · exact feInfo)
        | (with_reducible refine load_b Bv 24 (.tmp 10) Tryz.underlying24 ?_ ?_ ?_ ?_ ?_ ?_
           · rfl
           · rfl
           · rfl
           · rfl
           · exact feInfo))
      refine (Mul_q _ _ (r256_rl (tpv_rl X a x N)) HRv.out _).mono ?_
      rintro e w6 ⟨rfl, k⟩
      replace C := C.trans1 k
      replace Br := Br.chg k (by simp)
      clear k
      rw [HV.out]
      go_wp2_with (refine store_w Br rfl 24 _ _ (feC V) rfl rfl rfl feInfo rfl (feC_one _) ?_; intro w7 B7 k7)
      exact bodyPost_ret (results_cell_row Tryz.results66 _ _ rb 24 (feC V) (0, 0) _ rfl B7 Tryz.underlying24 rfl feInfo) rfl ⟨rfl, C.new k7 HR0.out⟩
/-- What rimeref07.Weights answers. -/
def WrP (d : Nat → Int) (N : Nat) (w : World) (e : Ending) (w' : World) : Prop :=
  (¬ idR d N = 0 ∧ e = .returned (.tuple #[.slice none 0 0, .int .i64 (idR d N)])) ∨ (idR d N = 0 ∧ ∃ r, e = .returned (.tuple #[r, .int .i64 0]) ∧ Os w' w.heap.size r (liL (wtv 0 d N) N))
set_option maxHeartbeats 16000000 in
set_option maxRecDepth 100000 in
theorem Weights_r (u : Value) (N : Nat) (d : Nat → Int) (hN : N ≤ 4611686018427387904) (w : World) (hL : Il w u N d) :
    Calls Tryz.prog 23 #[u] w fun e w' => WrP d N w e w' ∧ Chg w w' [] := by
  have hK := IDs_r u N d hN w hL
  have HLi : Hid (Il w u N d) := hL
  obtain ⟨p, cp, rfl, _⟩ := hL.form
  obtain ⟨E, hE⟩ : ∃ E, idR d N = E := ⟨_, rfl⟩
  have HE : Hid (idR d N = E) := hE
  rw [hE] at hK
  clear hL hN hE
  obtain ⟨ie, hie, hiz, his, hib⟩ := scRowL
  go_enter Tryz.func23, Tryz.ntmps23
  go_wp2_with fail
  refine hK.mono ?_
  rintro e w1 ⟨rfl, C⟩
  clear hK
  by_cases h : E = 0
  · subst h
    obtain ⟨q1, q2⟩ := idR_zero HE.out
    have HN : Hid (0 < N ∧ N ≤ 255) := ⟨q2, idE_len q1⟩
    have HD : Hid (∀ i, i < N → 1 ≤ d i ∧ d i ≤ 255) := (idE_zero q1).1
    have HIE : Hid (idE d N = 0) := q1
    have O0 : Os w1 w.heap.size (.slice none 0 0) (liL (wtv 0 d N) 0) := OwnR.nil _ _ _ _ _
    clear q1 q2
    go_wp2_with fail
    go_loopw [5, 6] (fun t5 t wr => ∃ i : Nat, i ≤ N ∧ t = .int .i64 (i : Int) ∧ Os wr w.heap.size t5 (liL (wtv 0 d N) i) ∧ Chg w wr []) (fun _ t _ => (N - intOf t).toNat)
    case atStart => exact ⟨0, Nat.zero_le _, rfl, O0, C⟩
    case round =>
      clear O0 C
      obtain ⟨i, hi, rfl, O, C⟩ := hrel
      by_cases h : i < N
      · have hI : (i : Int) < (N : Int) := by omega
        have hI0 : (0 : Int) ≤ (i : Int) := by omega
        have e1 : IntKind.i64.wrap ((i : Int) + 1) = (i : Int) + 1 := by have := HN.out; rw [IntKind.wrap_i64]; omega
        have HMs : Hid _ := mN N i h
        have HI1 : Hid (i + 1 ≤ N) := h
        have HOB : Hid (∀ i, i ∈ ob u5 → w.heap.size ≤ i) := fun i hi => (ob_own O i hi).1
        have HCz : Hid (w.heap.size ≤ wr.heap.size) := C.size
        have HWv : Hid (ml (tpv d i 0 N) (iv (tpv d i (d i) N)) = wtv 0 d N i) := rwv_wtv HIE.out 0 h
        have HZ : Hid (¬ LN ∣ (tpv d i (d i) N).toNat) := by show ¬ LN ∣ _; rw [tpv_gpv HIE.out h]; exact gpv_ne HIE.out h
        have HRd : Hid (∀ j, j < N → R256 (d j)) := fun j hj => by have := HD.out j hj; unfold R256; omega
        clear h hi
        go_wp2_with fail
        refine (places_r _ N d (by have := HN.out; omega) HD.out wr (HLi.out.chg C)).mono ?_
        rintro e w2 ⟨r, rfl, Op, k1⟩
        have LO := Op.pl HRd.out
        go_wp2_with (refine gl_build (by rfl) 24 #[] rfl (feC 0) (by kernel_rfl) ?_)
        refine (weight_r r N d HRd.out (by have := HN.out; omega) i (by have := HI1.out; omega) 0 r256_c0 HZ.out w2 LO).mono ?_
        rintro e w3 ⟨rfl, k2⟩
        rw [HWv.out]
        have O3 := (O.chg k1).chg k2
        replace C := (C.trans1 k1).trans1 k2
        have HCz3 : Hid (w.heap.size ≤ w3.heap.size) := C.size
        clear k1 k2 Op LO O
        go_wp2_with (first
          | (with_reducible refine bslice_w ?_ 22 24 (.tmp 23) ?_ (fe (wtv 0 d N i)) ?_ (feC (wtv 0 d N i)) ie (.agg z32) Tryz.underlying22 hie hiz 32 his ?_ ?_ (fill_sc _) ?_
             · rfl
             · rfl
             · rfl
             · omega
             · omega
             intro gx w4 hgx Bg k3)
          | (with_reducible refine append_os ?_ (.tmp 18) (.tmp 24) ?_ w.heap.size u5 gx (liL (wtv 0 d N) i) (wtv 0 d N i) ?_ ?_ (O3.chg k3) Bg ?_ ?_ ?_
             · rfl
             · rfl
             · rfl
             · rfl
             · rw [liL_len]; have := HN.out; have := HI1.out; omega
             · have := HCz3.out; have := k3.size; omega
             intro v7 w7 O7 k7))
        replace C := (C.trans1 k3).trans k7 (fun i hi => Or.inr (HOB.out i hi))
        rw [← liL_s] at O7
        clear k3 k7 O3 Bg hgx
        go_roundw
        case rel => exact ⟨i + 1, HI1.out, by go_num, O7, C⟩
        case measure => exact HMs.out
      · obtain rfl : N = i := by omega
        have hI : ¬ (N : Int) < (N : Int) := by omega
        go_wp2_with fail
        go_ret2
        exact ⟨Or.inr ⟨HE.out, _, rfl, O⟩, C⟩
  · have HH : Hid (¬ E = 0) := h
    go_wp2_with fail
    go_ret2
    exact ⟨Or.inl ⟨fun q => HH.out (HE.out.symm.trans q), by rw [HE.out]; rfl⟩, C⟩
set_option maxHeartbeats 16000000 in
set_option maxRecDepth 100000 in
theorem Lagrange_r (u : Value) (N : Nat) (d : Nat → Int) (hN : N ≤ 4611686018427387904) (id x : Int) (rx : R256 x) (w : World) (hL : Il w u N d) :
    Calls Tryz.prog 21 #[u, .int .i64 id, fe x] w fun e w' => LgP x d N id e ∧ Chg w w' [] := by
  have hK := IDs_r u N d hN
  have HLi : Hid (Il w u N d) := hL
  have HRx : Hid (R256 x) := rx
  obtain ⟨p, cp, rfl, hp⟩ := hL.form
  have HP : Hid (∀ i, i < N → ∃ g o, p = some ⟨g, o, none⟩ ∧ g < w.heap.size ∧ w.cell? ⟨g, o + i, none⟩ = some (.int .i64 (d i))) := hp
  have HK : Hid (∀ W, Il W (.slice p N cp) N d → Calls Tryz.prog 45 #[.slice p N cp] W fun e w' => e = .returned (.int .i64 (idR d N)) ∧ Chg W w' []) := hK
  obtain ⟨E, hE⟩ : ∃ E, idR d N = E := ⟨_, rfl⟩
  have HE : Hid (idR d N = E) := hE
  rw [hE] at HK
  clear hL hN hE rx hK hp
  go_enter Tryz.func21, Tryz.ntmps21
  go_wp2_with (first
    | (with_reducible refine alloc_w rfl 24 rfl (.agg z32) zeroSc z32 rfl ?_; intro rb w2 hrb Br k2)
    | (refine box_w rfl 24 _ rfl (feC x) rfl ?_; intro xb w1 hxb Bx k1))
  have C : Chg w w2 [] := k1.trans1 k2
  have HRB : Hid (w.heap.size ≤ rb) := by have := k1.size; show w.heap.size ≤ rb; omega
  have HXR : Hid (¬ xb ∈ [rb]) := by have := Bx.lt; show ¬ xb ∈ [rb]; simp; omega
  replace Bx := Bx.chg k2 (by simp)
  clear k1 k2 hxb hrb
  refine (HK.out _ (HLi.out.chg C)).mono ?_
  rintro e w3 ⟨rfl, k⟩
  replace C := C.trans1 k
  replace Bx := Bx.chg k (by simp)
  replace Br := Br.chg k (by simp)
  clear k HK
  by_cases h : E = 0
  · subst h
    obtain ⟨q1, q2⟩ := idR_zero HE.out
    have HN : Hid (0 < N ∧ N ≤ 255) := ⟨q2, idE_len q1⟩
    have HD : Hid (∀ i, i < N → 1 ≤ d i ∧ d i ≤ 255) := (idE_zero q1).1
    have HDI : Hid (∀ i j, i < N → j < N → d i = d j → i = j) := (idE_zero q1).2
    have HIE : Hid (idE d N = 0) := q1
    clear q1 q2
    go_wp2_with fail
    go_loopw [9] (fun t wr => ∃ i : Nat, i ≤ N ∧ t = .int .i64 (i : Int) ∧ (∀ j, j < i → ¬ d j = id) ∧ Blk wr xb (feC x) 24 ∧ Blk wr rb z32 24 ∧ Chg w wr []) (fun t _ => (N - intOf t).toNat)
    case atStart => exact ⟨0, Nat.zero_le _, rfl, fun j hj => by omega, Bx, Br, C⟩
    case round =>
      clear Bx Br C
      obtain ⟨i, hi, rfl, hno, Bx, Br, C⟩ := hrel
      have HNO : Hid (∀ j, j < i → ¬ d j = id) := hno
      clear hno
      by_cases h : i < N
      · have hI : (i : Int) < (N : Int) := by omega
        have hI0 : (0 : Int) ≤ (i : Int) := by omega
        have e1 : IntKind.i64.wrap ((i : Int) + 1) = (i : Int) + 1 := by have := HN.out; rw [IntKind.wrap_i64]; omega
        have HMs : Hid _ := mN N i h
        have HI : Hid (i < N) := h
        obtain ⟨gp, o, rfl, hg, hF⟩ := HP.out i h
        have hF' := cell_chg hF hg C (by simp)
        have HWv : Hid (ml (tpv d i x N) (iv (tpv d i (d i) N)) = wtv x d N i) := rwv_wtv HIE.out x h
        have HZ : Hid (¬ LN ∣ (tpv d i (d i) N).toNat) := by show ¬ LN ∣ _; rw [tpv_gpv HIE.out h]; exact gpv_ne HIE.out h
        have HRd : Hid (∀ j, j < N → R256 (d j)) := fun j hj => by have := HD.out j hj; unfold R256; omega
        have HWt : Hid (∀ r W, Ls W r N (nT d) → Calls Tryz.prog 66 #[r, .int .i64 (i : Int), fe x] W fun e w' => e = .returned (fe (wtv x d N i)) ∧ Chg W w' []) := fun r W h => by
          have q := weight_r r N d HRd.out (by have := HN.out; omega) i HI.out x HRx.out HZ.out W h
          rwa [HWv.out] at q
        clear hF hg h hi
        by_cases hv : d i = id
        · have HV : Hid (d i = id) := hv
          have hvb : (d i == id) = true := by simp [hv]
          go_wp2_with fail
          clear hF'
          refine wp_region_held_drew (S := fun w' => Chg wr w' [rb]) (by kernel_rfl) ((Chg.refl wr _).drew) (fun hHeld => ?_)
          replace Br : Blk wr.drew rb z32 24 := Br
          refine take_val (v := ?_) 0 (some 28) rfl (by kernel_rfl) (by kernel_rfl) (by kernel_rfl) (fun _ _ _ h => h) rfl rfl (fun w hSw => ?_) hHeld ?_
          rotate_left
          · (go_simp; try with_reducible rfl)
          try simp only [Act.put, List.setIfInBounds_toArray, List.set_cons_zero, List.set_cons_succ]
          refine take_val (v := ?_) 2 (some 30) rfl (by kernel_rfl) (by kernel_rfl) (by kernel_rfl) (fun _ _ _ h => h) rfl rfl (fun w hSw => ?_) hHeld ?_
          rotate_left
          · (go_simp; try with_reducible rfl)
          try simp only [Act.put, List.setIfInBounds_toArray, List.set_cons_zero, List.set_cons_succ]
          refine take_load 3 (some 31) (feC x) rfl (by kernel_rfl) (by kernel_rfl) (by kernel_rfl) (fun _ _ _ h => h) rfl rfl 24 _ rfl xb rfl 24 _ (fun w h => Bx.chg h HXR.out) Tryz.underlying24 rfl (by first | exact feInfo | kernel_rfl) hHeld ?_
          try simp only [Act.put, List.setIfInBounds_toArray, List.set_cons_zero, List.set_cons_succ]
          refine wpAnyH_ready (rs := [1]) (by kernel_rfl) (by simp) ?_
          refine AllReadyH.cons (o := _) rfl (fun K hK => ?_) ?_
          ·
            go_simp
            refine (places_r _ N d (by have := HN.out; omega) HD.out _ (HLi.out.chg C.drew)).mono ?_
            rintro e w5 ⟨r, rfl, O, k⟩
            have LO := O.pl (fun j hj => by have := HD.out j hj; unfold R256; omega)
            go_wp2_with fail
            refine hK.out _ _ (hHeld.trans1 k.wide) (fun hHeld => ?_)
            clear hK K
            try simp only [Act.put, List.setIfInBounds_toArray, List.set_cons_zero, List.set_cons_succ]
            replace Br := Br.chg k (by simp)
            clear k O
            refine wpAnyH_ready (rs := [4]) (by kernel_rfl) (by simp) ?_
            refine AllReadyH.cons (o := _) rfl (fun K hK => ?_) ?_
            ·
              go_simp
              refine (HWt.out _ _ LO).mono ?_
              rintro e w6 ⟨rfl, k⟩
              go_wp2_with fail
              refine hK.out _ _ (hHeld.trans1 k.wide) (fun hHeld => ?_)
              clear hK K
              try simp only [Act.put, List.setIfInBounds_toArray, List.set_cons_zero, List.set_cons_succ]
              replace Br := Br.chg k (by simp)
              clear k LO
              refine wpAnyH_ready (rs := [5]) (by kernel_rfl) (by simp) ?_
              refine AllReadyH.cons (o := _) rfl (fun K hK => ?_) ?_
              ·
                rw [if_pos (by rfl)]
                refine wp_store_w Br 24 _ _ (feC (wtv x d N i)) rfl rfl rfl feInfo rfl (feC_one _) ?_
                intro w8 B8 k8
                refine hK.out _ _ (hHeld.trans1 k8) (fun hHeld => ?_)
                clear hK K
                try simp only [Act.put, List.setIfInBounds_toArray, List.set_cons_zero, List.set_cons_succ]
                refine take_val (v := ?_) 6 (some 7) rfl (by kernel_rfl) (by kernel_rfl) (by kernel_rfl) (fun _ _ _ h => h) rfl rfl (fun w hSw => ?_) hHeld ?_
                rotate_left
                · (go_simp; try with_reducible rfl)
                try simp only [Act.put, List.setIfInBounds_toArray, List.set_cons_zero, List.set_cons_succ]
                refine wpAnyH_done (by kernel_rfl) ?_ _
                replace C := C.new hHeld HRB.out
                clear Br k8 hHeld
                go_wp2_with fail
                exact bodyPost_ret (results_cell_tmp Tryz.results21 _ _ rb 24 (feC (wtv x d N i)) _ _ rfl rfl B8 Tryz.underlying24 rfl feInfo) rfl ⟨⟨wtv x d N i, 0, rfl, fun h => absurd HE.out h, fun _ h => absurd ⟨i, HI.out, HV.out⟩ h, fun j hj _ e => by obtain rfl := HDI.out j i hj HI.out (e.trans HV.out.symm); exact ⟨rfl, rfl⟩⟩, C⟩
              exact AllReadyH.nil
            exact AllReadyH.nil
          exact AllReadyH.nil
        · have HV : Hid (¬ d i = id) := hv
          have hvb : (d i == id) = false := by simp [hv]
          go_wp2_with fail
          go_roundw
          case rel => exact ⟨i + 1, HI.out, by go_num, fun j hj e => by
            by_cases q : j = i
            · subst q; exact HV.out e
            · exact HNO.out j (by omega) e, Bx, Br, C⟩
          case measure => exact HMs.out
      · obtain rfl : N = i := by omega
        have hI : ¬ (N : Int) < (N : Int) := by omega
        go_wp2_with (first
          | (refine gl_build (by rfl) 24 #[] rfl (feC 0) (by kernel_rfl) ?_)
          | (refine store_w Br rfl 24 _ _ (feC 0) rfl rfl rfl feInfo rfl (feC_one _) ?_; intro w7 B7 k7))
        exact bodyPost_ret (results_cell_tmp Tryz.results21 _ _ rb 24 (feC 0) _ _ rfl rfl B7 Tryz.underlying24 rfl feInfo) rfl ⟨⟨0, 92, rfl, fun h => absurd HE.out h, fun _ _ => ⟨rfl, rfl⟩, fun i hi _ e => absurd e (HNO.out i hi)⟩, C.new k7 HRB.out⟩
  · have HH : Hid (¬ E = 0) := h
    go_wp2_with (first
      | (refine gl_build (by rfl) 24 #[] rfl (feC 0) (by kernel_rfl) ?_)
      | (refine store_w Br rfl 24 _ _ (feC 0) rfl rfl rfl feInfo rfl (feC_one _) ?_; intro w7 B7 k7))
    exact bodyPost_ret (results_cell_tmp Tryz.results21 _ _ rb 24 (feC 0) _ _ rfl rfl B7 Tryz.underlying24 rfl feInfo) rfl ⟨⟨0, E, rfl, fun _ => ⟨rfl, HE.out.symm⟩, fun h => absurd (HE.out.symm.trans h) HH.out, fun _ _ h => absurd (HE.out.symm.trans h) HH.out⟩, C.new k7 HRB.out⟩
end Go.Proofs.YtemjpibmefggnaaGreat
