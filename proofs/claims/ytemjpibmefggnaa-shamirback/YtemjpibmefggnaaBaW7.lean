/- ShamirBack: the walk. -/
import Derived.Test.YtemjpibmefggnaaWtA
import Derived.Test.YtemjpibmefggnaaMgH
import Derived.Test.YtemjpibmefggnaaMgI
import Derived.Test.YtemjpibmefggnaaMgE
set_option linter.unusedVariables false
set_option linter.unusedSimpArgs false
set_option linter.unnecessarySimpa false
namespace Go.Proofs.Ytemjpibmefggnaa
open Go.RowKit N

/-- The last shares of a list. -/
theorem Hb.tail {w : World} {o N : Nat} {d y : Nat → Int} (h : Hb w o N d y) (hN : N ≤ 9223372036854775807) (hy : ∀ j, j < N → R256 (y j)) {q T : Nat} (hq : q + T = N) : Hl w (.slice (some ⟨o, q * 33, none⟩) T T) T (fun i => d (q + i)) (fun i => y (q + i)) := by
  refine ⟨⟨hF_ok _ _ _, Or.inr ⟨o, q * 33, T, rfl, Nat.le_refl _, by omega, h.lt, fun i hi => ?_⟩⟩, fun j hj => hy _ (by omega)⟩
  have r := Blk.rangeRw h (hF_ok N d y) (show q + i < N by omega)
  rw [Nat.add_mul] at r
  exact r
theorem idR_tail {d : Nat → Int} {N q T : Nat} (h : idR d N = 0) (hT : 0 < T) (hq : q + T = N) : idR (fun i => d (q + i)) T = 0 := by
  obtain ⟨h1, h2⟩ := idE_zero (idR_zero h).1
  unfold idR
  rw [if_neg (by omega)]
  exact idE_mk (fun i hi => h1 _ (by omega)) (fun i j hi hj e => by have := h2 (q + i) (q + j) (by omega) (by omega) e; omega)
theorem ip_of_ev {d : Nat → Int} {N q T : Nat} {f : Nat → Nat} (h : idR d N = 0) (hT : 0 < T) (hq : q + T = N) (x : Int) : ipR x (fun i => d (q + i)) (fun i => ev f (d (q + i)) 0 T) T = ev f x 0 T := by
  have h' := idR_tail h hT hq
  unfold ipR
  rw [if_pos h']
  exact wsum_ev (idR_zero h').1 x f _ (Nat.le_refl _) (fun i _ => mod_id (ev_rl _ _ _ _))
set_option maxHeartbeats 32000000 in
set_option maxRecDepth 100000 in
theorem back_walk (va vi : Value) (T N : Nat) (f : Nat → Nat) (d : Nat → Int) (x : Int) (rx : R256 x) (hT : T ≤ 4398046511000) (hN : N ≤ 4611686018427387904) (w : World) (hLa : Ls w va T f) (hLi : Il w vi N d) :
    Calls Try.prog 3 #[va, vi, fe x] w fun e w' => e = .returned (.bool true) ∧ Chg w w' [] := by
  have HLa : Hid (Ls w va T f) := hLa
  have HLi : Hid (Il w vi N d) := hLi
  obtain ⟨pa, ca, rfl, _⟩ := hLa.range
  obtain ⟨pi, ci, rfl, _⟩ := hLi.form
  have HRx : Hid (R256 x) := rx
  have HB : Hid (T ≤ 4398046511000 ∧ N ≤ 4611686018427387904) := ⟨hT, hN⟩
  clear hLa hLi rx hT hN
  go_enter Try.func3, Try.ntmps3
  go_wp2_with (refine box_w rfl 25 _ rfl (feC x) rfl ?_; intro xb w1 hxb Bx k1)
  refine (alive_s w1).mono ?_
  rintro e w2 ⟨rfl, k2⟩
  have C : Chg w w2 [] := k1.trans1 k2
  replace Bx := Bx.chg k2 (by simp)
  clear k1 k2 hxb
  go_wp2_with fail
  refine (Split_s _ _ T f (by have := HB.out; omega) N d HB.out.2 w2 (HLa.out.chg0 C) (HLi.out.chg C)).mono ?_
  rintro e w3 ⟨P1, k⟩
  replace C := C.trans1 k
  replace Bx := Bx.chg k (by simp)
  clear k
  by_cases h0 : idR d N = 0
  · rcases P1 with ⟨hbad, _⟩ | ⟨_, g, _, rfl, Hx⟩
    · exact absurd h0 hbad
    have HZ : Hid (idR d N = 0) := h0
    clear h0
    by_cases hT1 : (T : Int) < 1
    · go_wp2_with (go_at_call 6; refine (numS 0 (by decide) _).mono ?_; rintro e w' ⟨rfl, rfl⟩)
      refine (IDs_r _ N d HB.out.2 _ (HLi.out.chg C)).mono ?_
      rintro e w5 ⟨rfl, k⟩
      rw [HZ.out]
      go_wp2_with fail
      go_ret
      exact ⟨rfl, C.trans1 k⟩
    by_cases hNT : (N : Int) < (T : Int)
    · go_wp2_with (go_at_call 6; refine (numS 0 (by decide) _).mono ?_; rintro e w' ⟨rfl, rfl⟩)
      refine (IDs_r _ N d HB.out.2 _ (HLi.out.chg C)).mono ?_
      rintro e w5 ⟨rfl, k⟩
      rw [HZ.out]
      go_wp2_with fail
      go_ret
      exact ⟨rfl, C.trans1 k⟩
    obtain ⟨q, hq⟩ : ∃ q, q + T = N := ⟨N - T, by omega⟩
    have HQ : Hid (q + T = N) := hq
    have HN : Hid (N ≤ 255) := idE_len (idR_zero HZ.out).1
    have HT : Hid (0 < T ∧ T ≤ 255 ∧ T ≤ N) := by have := HN.out; show 0 < T ∧ T ≤ 255 ∧ T ≤ N; omega
    have HL := Hx.hl (n := N) (by have := HN.out; omega) (fun j _ => r256_rl (ev_rl _ _ _ _)) (Nat.le_refl _)
    have hrec := Recover_s _ N d _ HB.out.2 (T : Int) (fun j _ hj => id_ne (idR_zero HZ.out).1 j hj) w3 HL
    rw [rc_of_ev HZ.out HT.out.1 HT.out.2.2 (fun i _ => rfl)] at hrec
    have eq1 : IntKind.i64.wrap ((N : Int) - (T : Int)) = (q : Int) := by have := HN.out; rw [IntKind.wrap_i64]; omega
    have hq0 : (0 : Int) ≤ (q : Int) := by omega
    have hqN : (q : Int) ≤ (N : Int) := by omega
    have eqT : N - q = T := by omega
    go_wp2_with (go_at_call 6; refine (numS 0 (by decide) _).mono ?_; rintro e w' ⟨rfl, rfl⟩)
    refine hrec.mono ?_
    rintro e w4 ⟨rfl, k⟩
    clear hrec HL
    replace C := C.trans1 k
    replace Bx := Bx.chg k (by simp)
    replace Hx := Hx.chg k (by simp)
    clear k
    go_upto_region 8 with (first
      | (with_reducible refine alloc_w rfl 25 rfl (.agg z32) zeroSc z32 rfl ?_; intro sb w5 hsb Bs0 k5)
      | (refine store_w Bs0 rfl 25 _ _ (feC (ad ((f 0 : Nat) : Int) 0)) rfl rfl rfl feInfo rfl (feC_one _) ?_; intro wr Bs k6))
    have HSB : Hid (w.heap.size ≤ sb) := by have := C.size; show w.heap.size ≤ sb; omega
    have HSG : Hid (¬ g ∈ [sb]) := by have := Hx.lt; show ¬ g ∈ [sb]; simp; omega
    have HSX : Hid (¬ xb ∈ [sb]) := by have := Bx.lt; show ¬ xb ∈ [sb]; simp; omega
    replace C := (C.trans1 k5).new k6 HSB.out
    replace Bx := (Bx.chg k5 (by simp)).chg k6 HSX.out
    replace Hx := (Hx.chg k5 (by simp)).chg k6 HSG.out
    clear k5 k6 Bs0 hsb
    have HIP : Hid (∀ W, Chg wr W [] → Calls Try.prog 9 #[.slice (some ⟨g, q * 33, none⟩) T T, fe x] W fun e w' => e = .returned (.tuple #[fe (ev f x 0 T), .int .i64 0]) ∧ Chg W w' []) := fun W h => by
      have hi := Interpolate_s _ T (fun i => d (q + i)) (fun i => ev f (d (q + i)) 0 T) (by have := HT.out; omega) x HRx.out W (((Hx.tail (by have := HN.out; omega) (fun j _ => r256_rl (ev_rl _ _ _ _)) HQ.out)).chg h)
      rw [ip_of_ev HZ.out HT.out.1 HQ.out x, idR_tail HZ.out HT.out.1 HQ.out] at hi
      exact hi
    go_cut [12, 13] (fun t12 t13 wc => ∃ ib, t12 = .pointer (some ⟨ib, 0, none⟩) ∧ t13 = .int .i64 0 ∧ Blk wc ib (feC (ev f x 0 T)) 25 ∧ Chg wr wc [])
    case first =>
      refine wp_region_held_drew (S := fun w' => Chg wr w' []) (by kernel_rfl) ((Chg.refl wr _).drew) (fun hHeld => ?_)
      refine take_val (v := ?_) 0 (some 51) rfl (by kernel_rfl) (by kernel_rfl) (by kernel_rfl) (fun _ _ _ h => h) rfl rfl (fun w hSw => ?_) hHeld ?_
      rotate_left
      · (go_simp; try with_reducible rfl)
      try simp only [Act.put, List.setIfInBounds_toArray, List.set_cons_zero, List.set_cons_succ]
      refine take_val (v := ?_) 1 (some 52) rfl (by kernel_rfl) (by kernel_rfl) (by kernel_rfl) (fun _ _ _ h => h) rfl rfl (fun w hSw => ?_) hHeld ?_
      rotate_left
      · (go_simp; try with_reducible rfl)
      try simp only [Act.put, List.setIfInBounds_toArray, List.set_cons_zero, List.set_cons_succ]
      refine take_val (v := ?_) 2 (some 53) rfl (by kernel_rfl) (by kernel_rfl) (by kernel_rfl) (fun _ _ _ h => h) rfl rfl (fun w hSw => ?_) hHeld ?_
      rotate_left
      · (go_simp; try with_reducible rfl)
      try simp only [Act.put, List.setIfInBounds_toArray, List.set_cons_zero, List.set_cons_succ]
      refine take_val (v := ?_) 3 (some 54) rfl (by kernel_rfl) (by kernel_rfl) (by kernel_rfl) (fun _ _ _ h => h) rfl rfl (fun w hSw => ?_) hHeld ?_
      rotate_left
      · (go_simp; try with_reducible rfl)
      try simp only [Act.put, List.setIfInBounds_toArray, List.set_cons_zero, List.set_cons_succ]
      refine take_val (v := ?_) 4 (some 55) rfl (by kernel_rfl) (by kernel_rfl) (by kernel_rfl) (fun _ _ _ h => h) rfl rfl (fun w hSw => ?_) hHeld ?_
      rotate_left
      · (go_simp; try with_reducible rfl)
      try simp only [Act.put, List.setIfInBounds_toArray, List.set_cons_zero, List.set_cons_succ]
      refine take_val (v := (.slice (some ⟨g, q * 33, none⟩) T T)) 5 (some 56) rfl (by kernel_rfl) (by kernel_rfl) (by kernel_rfl) (fun _ _ _ h => h) rfl rfl (fun w hSw => ?_) hHeld ?_
      · (go_simp; have := HT.out; have := HQ.out; intro hh; omega)
      try simp only [Act.put, List.setIfInBounds_toArray, List.set_cons_zero, List.set_cons_succ]
      refine take_load 6 (some 57) (feC x) rfl (by kernel_rfl) (by kernel_rfl) (by kernel_rfl) (fun _ _ _ h => h) rfl rfl 25 _ rfl xb rfl 25 _ (fun w h => Bx.chg h (by simp)) Try.underlying25 rfl (by first | exact feInfo | kernel_rfl) hHeld ?_
      try simp only [Act.put, List.setIfInBounds_toArray, List.set_cons_zero, List.set_cons_succ]
      refine wpAnyH_ready (rs := [7, 11]) (by kernel_rfl) (by simp) ?_
      refine AllReadyH.cons (o := _) rfl (fun K hK => ?_) ?_
      ·
        go_simp
        refine (HIP.out _ hHeld).mono ?_
        rintro e w5 ⟨rfl, k⟩
        go_wp2_with fail
        refine hK.out _ _ (hHeld.trans1 k) (fun hHeld => ?_)
        clear hK K
        try simp only [Act.put, List.setIfInBounds_toArray, List.set_cons_zero, List.set_cons_succ]
        clear k
        refine take_val (v := ?_) 8 (some 50) rfl (by kernel_rfl) (by kernel_rfl) (by kernel_rfl) (fun _ _ _ h => h) rfl rfl (fun w hSw => ?_) hHeld ?_
        rotate_left
        · (go_simp; try with_reducible rfl)
        try simp only [Act.put, List.setIfInBounds_toArray, List.set_cons_zero, List.set_cons_succ]
        refine take_val (v := ?_) 9 (some 59) rfl (by kernel_rfl) (by kernel_rfl) (by kernel_rfl) (fun _ _ _ h => h) rfl rfl (fun w hSw => ?_) hHeld ?_
        rotate_left
        · (go_simp; try with_reducible rfl)
        try simp only [Act.put, List.setIfInBounds_toArray, List.set_cons_zero, List.set_cons_succ]
        refine take_val (v := ?_) 10 (some 60) rfl (by kernel_rfl) (by kernel_rfl) (by kernel_rfl) (fun _ _ _ h => h) rfl rfl (fun w hSw => ?_) hHeld ?_
        rotate_left
        · (go_simp; try with_reducible rfl)
        try simp only [Act.put, List.setIfInBounds_toArray, List.set_cons_zero, List.set_cons_succ]
        refine wpAnyH_ready (rs := [11]) (by kernel_rfl) (by simp) ?_
        refine AllReadyH.cons (o := _) rfl (fun K hK => ?_) ?_
        ·
          rw [if_pos (by rfl)]
          refine wp_alloc_w 25 rfl (.agg z32) zeroSc z32 rfl ?_
          intro ib w6 hib Bi k6
          change K (Act.put _ (some 12) _) _
          have HIB : Hid (wr.heap.size ≤ ib) := by have := hHeld.size; show wr.heap.size ≤ ib; omega
          refine hK.out _ _ (hHeld.trans1 k6) (fun hHeld => ?_)
          clear hK K
          try simp only [Act.put, List.setIfInBounds_toArray, List.set_cons_zero, List.set_cons_succ]
          clear k6 hib
          refine wpAnyH_ready (rs := [12]) (by kernel_rfl) (by simp) ?_
          refine AllReadyH.cons (o := _) rfl (fun K hK => ?_) ?_
          ·
            rw [if_pos (by rfl)]
            refine wp_store_w Bi 25 _ _ (feC (ev f x 0 T)) rfl rfl rfl feInfo rfl (feC_one _) ?_
            intro w7 B7 k7
            refine hK.out _ _ (hHeld.new k7 HIB.out) (fun hHeld => ?_)
            clear hK K
            try simp only [Act.put, List.setIfInBounds_toArray, List.set_cons_zero, List.set_cons_succ]
            refine take_val (v := ?_) 13 (some 13) rfl (by kernel_rfl) (by kernel_rfl) (by kernel_rfl) (fun _ _ _ h => h) rfl rfl (fun w hSw => ?_) hHeld ?_
            rotate_left
            · (go_simp; try with_reducible rfl)
            try simp only [Act.put, List.setIfInBounds_toArray, List.set_cons_zero, List.set_cons_succ]
            refine wpAnyH_done (by kernel_rfl) ?_ _
            replace C := C.trans1 hHeld
            clear k7 Bi HIB
            go_wp2_with fail
            go_meet
            case rel => exact ⟨ib, rfl, rfl, B7, hHeld⟩
          exact AllReadyH.nil
        exact AllReadyH.nil
      refine AllReadyH.cons (o := _) rfl (fun K hK => ?_) ?_
      ·
        rw [if_pos (by rfl)]
        refine wp_alloc_w 25 rfl (.agg z32) zeroSc z32 rfl ?_
        intro ib w6 hib Bi k6
        change K (Act.put _ (some 12) _) _
        have HIB : Hid (wr.heap.size ≤ ib) := by have := hHeld.size; show wr.heap.size ≤ ib; omega
        refine hK.out _ _ (hHeld.trans1 k6) (fun hHeld => ?_)
        clear hK K
        try simp only [Act.put, List.setIfInBounds_toArray, List.set_cons_zero, List.set_cons_succ]
        clear k6 hib
        refine wpAnyH_ready (rs := [7]) (by kernel_rfl) (by simp) ?_
        refine AllReadyH.cons (o := _) rfl (fun K hK => ?_) ?_
        ·
          go_simp
          refine (HIP.out _ hHeld).mono ?_
          rintro e w5 ⟨rfl, k⟩
          go_wp2_with fail
          refine hK.out _ _ (hHeld.trans1 k) (fun hHeld => ?_)
          clear hK K
          try simp only [Act.put, List.setIfInBounds_toArray, List.set_cons_zero, List.set_cons_succ]
          replace Bi := Bi.chg k (by simp)
          clear k
          refine take_val (v := ?_) 8 (some 50) rfl (by kernel_rfl) (by kernel_rfl) (by kernel_rfl) (fun _ _ _ h => h) rfl rfl (fun w hSw => ?_) hHeld ?_
          rotate_left
          · (go_simp; try with_reducible rfl)
          try simp only [Act.put, List.setIfInBounds_toArray, List.set_cons_zero, List.set_cons_succ]
          refine take_val (v := ?_) 9 (some 59) rfl (by kernel_rfl) (by kernel_rfl) (by kernel_rfl) (fun _ _ _ h => h) rfl rfl (fun w hSw => ?_) hHeld ?_
          rotate_left
          · (go_simp; try with_reducible rfl)
          try simp only [Act.put, List.setIfInBounds_toArray, List.set_cons_zero, List.set_cons_succ]
          refine take_val (v := ?_) 10 (some 60) rfl (by kernel_rfl) (by kernel_rfl) (by kernel_rfl) (fun _ _ _ h => h) rfl rfl (fun w hSw => ?_) hHeld ?_
          rotate_left
          · (go_simp; try with_reducible rfl)
          try simp only [Act.put, List.setIfInBounds_toArray, List.set_cons_zero, List.set_cons_succ]
          refine wpAnyH_ready (rs := [12]) (by kernel_rfl) (by simp) ?_
          refine AllReadyH.cons (o := _) rfl (fun K hK => ?_) ?_
          ·
            rw [if_pos (by rfl)]
            refine wp_store_w Bi 25 _ _ (feC (ev f x 0 T)) rfl rfl rfl feInfo rfl (feC_one _) ?_
            intro w7 B7 k7
            refine hK.out _ _ (hHeld.new k7 HIB.out) (fun hHeld => ?_)
            clear hK K
            try simp only [Act.put, List.setIfInBounds_toArray, List.set_cons_zero, List.set_cons_succ]
            refine take_val (v := ?_) 13 (some 13) rfl (by kernel_rfl) (by kernel_rfl) (by kernel_rfl) (fun _ _ _ h => h) rfl rfl (fun w hSw => ?_) hHeld ?_
            rotate_left
            · (go_simp; try with_reducible rfl)
            try simp only [Act.put, List.setIfInBounds_toArray, List.set_cons_zero, List.set_cons_succ]
            refine wpAnyH_done (by kernel_rfl) ?_ _
            replace C := C.trans1 hHeld
            clear k7 Bi HIB
            go_wp2_with fail
            go_meet
            case rel => exact ⟨ib, rfl, rfl, B7, hHeld⟩
          exact AllReadyH.nil
        exact AllReadyH.nil
      exact AllReadyH.nil
    case rest =>
    obtain ⟨ib, rfl, rfl, Bi, k⟩ := hcut
    replace C := C.trans1 k
    replace Bx := Bx.chg k (by simp)
    replace Bs := Bs.chg k (by simp)
    replace Hx := Hx.chg k (by simp)
    clear k HIP
    rename_i wc
    have HL := Hx.hl (n := N) (by have := HN.out; omega) (fun j _ => r256_rl (ev_rl _ _ _ _)) (Nat.le_refl _)
    have hcs := Consistent_s _ N d _ HB.out.2 (T : Int) (fun j _ hj => id_ne (idR_zero HZ.out).1 j hj) wc HL
    rw [show csR d (fun i => ev f (d i) 0 T) N (T : Int) = (true, 0) by
      unfold csR
      rw [if_pos (by have := HT.out; omega), if_pos HZ.out, Int.toNat_natCast, Nat.min_eq_left HT.out.2.2, st_of_ev (idR_zero HZ.out).1 HT.out.2.2 (fun i _ => rfl)]
      rfl] at hcs
    go_wp2_with fail
    refine hcs.mono ?_
    rintro e wr' ⟨rfl, k⟩
    clear hcs HL
    replace C := C.trans1 k
    replace Bx := Bx.chg k (by simp)
    replace Bs := Bs.chg k (by simp)
    replace Bi := Bi.chg k (by simp)
    clear k Hx
    have hT00 : 0 < T := HT.out.1
    go_wp2_with fail
    refine wp_region_held_drew (S := fun w' => Chg wr' w' []) (by kernel_rfl) ((Chg.refl wr' _).drew) (fun hHeld => ?_)
    refine take_val (v := ?_) 0 (some 67) rfl (by kernel_rfl) (by kernel_rfl) (by kernel_rfl) (fun _ _ _ h => h) rfl rfl (fun w hSw => ?_) hHeld ?_
    rotate_left
    · (go_simp; try with_reducible rfl)
    try simp only [Act.put, List.setIfInBounds_toArray, List.set_cons_zero, List.set_cons_succ]
    refine wpAnyH_ready (rs := [1]) (by kernel_rfl) (by simp) ?_
    refine AllReadyH.cons (o := _) rfl (fun K hK => ?_) ?_
    ·
      go_simp
      refine (numS 0 (by decide) _).mono ?_
      rintro e w5 ⟨rfl, rfl⟩
      go_wp2_with fail
      refine hK.out _ _ (hHeld) (fun hHeld => ?_)
      clear hK K
      try simp only [Act.put, List.setIfInBounds_toArray, List.set_cons_zero, List.set_cons_succ]
      refine take_val (v := (.bool true)) 2 (some 69) rfl (by kernel_rfl) (by kernel_rfl) (by kernel_rfl) (fun _ _ _ h => h) rfl rfl (fun w hSw => ?_) hHeld ?_
      · (go_simp; try with_reducible rfl)
      try simp only [Act.put, List.setIfInBounds_toArray, List.set_cons_zero, List.set_cons_succ]
      refine take_val (v := ?_) 3 (some 70) rfl (by kernel_rfl) (by kernel_rfl) (by kernel_rfl) (fun _ _ _ h => h) rfl rfl (fun w hSw => ?_) hHeld ?_
      rotate_left
      · (go_simp; try with_reducible rfl)
      try simp only [Act.put, List.setIfInBounds_toArray, List.set_cons_zero, List.set_cons_succ]
      refine take_val (v := ?_) 4 (some 71) rfl (by kernel_rfl) (by kernel_rfl) (by kernel_rfl) (fun _ _ _ h => h) rfl rfl (fun w hSw => ?_) hHeld ?_
      rotate_left
      · (go_simp; try with_reducible rfl)
      try simp only [Act.put, List.setIfInBounds_toArray, List.set_cons_zero, List.set_cons_succ]
      refine wpAnyH_ready (rs := [5]) (by kernel_rfl) (by simp) ?_
      refine AllReadyH.cons (o := _) rfl (fun K hK => ?_) ?_
      ·
        go_simp
        refine (numS 0 (by decide) _).mono ?_
        rintro e w5 ⟨rfl, rfl⟩
        go_wp2_with fail
        refine hK.out _ _ (hHeld) (fun hHeld => ?_)
        clear hK K
        try simp only [Act.put, List.setIfInBounds_toArray, List.set_cons_zero, List.set_cons_succ]
        refine take_val (v := (.bool true)) 6 (some 73) rfl (by kernel_rfl) (by kernel_rfl) (by kernel_rfl) (fun _ _ _ h => h) rfl rfl (fun w hSw => ?_) hHeld ?_
        · (go_simp; try with_reducible rfl)
        try simp only [Act.put, List.setIfInBounds_toArray, List.set_cons_zero, List.set_cons_succ]
        refine take_val (v := ?_) 7 (some 74) rfl (by kernel_rfl) (by kernel_rfl) (by kernel_rfl) (fun _ _ _ h => h) rfl rfl (fun w hSw => ?_) hHeld ?_
        rotate_left
        · (go_simp; try with_reducible rfl)
        try simp only [Act.put, List.setIfInBounds_toArray, List.set_cons_zero, List.set_cons_succ]
        refine take_val (v := ?_) 8 (some 75) rfl (by kernel_rfl) (by kernel_rfl) (by kernel_rfl) (fun _ _ _ h => h) rfl rfl (fun w hSw => ?_) hHeld ?_
        rotate_left
        · (go_simp; try with_reducible rfl)
        try simp only [Act.put, List.setIfInBounds_toArray, List.set_cons_zero, List.set_cons_succ]
        refine take_val (v := ?_) 9 (some 76) rfl (by kernel_rfl) (by kernel_rfl) (by kernel_rfl) (fun _ _ _ h => h) rfl rfl (fun w hSw => ?_) hHeld ?_
        rotate_left
        · (go_simp; try with_reducible rfl)
        try simp only [Act.put, List.setIfInBounds_toArray, List.set_cons_zero, List.set_cons_succ]
        refine wpAnyH_ready (rs := [10]) (by kernel_rfl) (by simp) ?_
        refine AllReadyH.cons (o := _) rfl (fun K hK => ?_) ?_
        ·
          go_simp
          refine (numS 0 (by decide) _).mono ?_
          rintro e w5 ⟨rfl, rfl⟩
          go_wp2_with fail
          refine hK.out _ _ (hHeld) (fun hHeld => ?_)
          clear hK K
          try simp only [Act.put, List.setIfInBounds_toArray, List.set_cons_zero, List.set_cons_succ]
          refine take_val (v := (.bool true)) 11 (some 78) rfl (by kernel_rfl) (by kernel_rfl) (by kernel_rfl) (fun _ _ _ h => h) rfl rfl (fun w hSw => ?_) hHeld ?_
          · (go_simp; try with_reducible rfl)
          try simp only [Act.put, List.setIfInBounds_toArray, List.set_cons_zero, List.set_cons_succ]
          refine take_val (v := ?_) 12 (some 79) rfl (by kernel_rfl) (by kernel_rfl) (by kernel_rfl) (fun _ _ _ h => h) rfl rfl (fun w hSw => ?_) hHeld ?_
          rotate_left
          · (go_simp; try with_reducible rfl)
          try simp only [Act.put, List.setIfInBounds_toArray, List.set_cons_zero, List.set_cons_succ]
          refine take_val (v := ?_) 13 (some 80) rfl (by kernel_rfl) (by kernel_rfl) (by kernel_rfl) (fun _ _ _ h => h) rfl rfl (fun w hSw => ?_) hHeld ?_
          rotate_left
          · (go_simp; try with_reducible rfl)
          try simp only [Act.put, List.setIfInBounds_toArray, List.set_cons_zero, List.set_cons_succ]
          refine take_val (v := ?_) 14 (some 81) rfl (by kernel_rfl) (by kernel_rfl) (by kernel_rfl) (fun _ _ _ h => h) rfl rfl (fun w hSw => ?_) hHeld ?_
          rotate_left
          · (go_simp; try with_reducible rfl)
          try simp only [Act.put, List.setIfInBounds_toArray, List.set_cons_zero, List.set_cons_succ]
          refine take_val (v := ?_) 15 (some 82) rfl (by kernel_rfl) (by kernel_rfl) (by kernel_rfl) (fun _ _ _ h => h) rfl rfl (fun w hSw => ?_) hHeld ?_
          rotate_left
          · (go_simp; try with_reducible rfl)
          try simp only [Act.put, List.setIfInBounds_toArray, List.set_cons_zero, List.set_cons_succ]
          refine take_val (v := ?_) 16 (some 83) rfl (by kernel_rfl) (by kernel_rfl) (by kernel_rfl) (fun _ _ _ h => h) rfl rfl (fun w hSw => ?_) hHeld ?_
          rotate_left
          · (go_simp; try with_reducible rfl)
          try simp only [Act.put, List.setIfInBounds_toArray, List.set_cons_zero, List.set_cons_succ]
          refine take_load 17 (some 84) (feC (ad ((f 0 : Nat) : Int) 0)) rfl (by kernel_rfl) (by kernel_rfl) (by kernel_rfl) (fun _ _ _ h => h) rfl rfl 25 _ rfl sb rfl 25 _ (fun w h => Bs.chg h (by simp)) Try.underlying25 rfl (by first | exact feInfo | kernel_rfl) hHeld ?_
          try simp only [Act.put, List.setIfInBounds_toArray, List.set_cons_zero, List.set_cons_succ]
          refine take_val (v := ?_) 18 (some 85) rfl (by kernel_rfl) (by kernel_rfl) (by kernel_rfl) (fun _ _ _ h => h) rfl rfl (fun w hSw => ?_) hHeld ?_
          rotate_left
          · (go_simp; try with_reducible rfl)
          try simp only [Act.put, List.setIfInBounds_toArray, List.set_cons_zero, List.set_cons_succ]
          refine wpAnyH_ready (rs := [19]) (by kernel_rfl) (by simp) ?_
          refine AllReadyH.cons (o := _) rfl (fun K hK => ?_) ?_
          ·
            go_simp
            refine (canon_s _ T f (by have := HT.out; omega) _ (HLa.out.chg0 (C.trans1 hHeld))).mono ?_
            rintro e w5 ⟨r, rfl, O, k⟩
            have O' : Rl w5 32 r T (oS (cnL f T)) := by have q := OwnR.rl O; rwa [cnL_len] at q
            obtain ⟨pc, cpc, rfl, hpc⟩ := O'.form
            obtain ⟨gc, oc, rfl, hgc, hrc⟩ := hpc 0 HT.out.1
            replace hrc : w5.rangeAt gc oc (feL (ad ((f 0 : Nat) : Int) 0)) := by unfold oS at hrc; rw [cnL_get f T 0 HT.out.1, Nat.zero_mul, Nat.add_zero] at hrc; exact hrc
            go_wp2_with fail
            refine hK.out _ _ (hHeld.trans1 k) (fun hHeld => ?_)
            clear hK K
            try simp only [Act.put, List.setIfInBounds_toArray, List.set_cons_zero, List.set_cons_succ]
            clear k O O' hpc
            refine take_val (v := ?_) 20 (some 87) rfl (by kernel_rfl) (by kernel_rfl) (by kernel_rfl) (fun _ _ _ h => h) rfl rfl (fun w hSw => ?_) hHeld ?_
            rotate_left
            · (go_simp; try with_reducible rfl)
            try simp only [Act.put, List.setIfInBounds_toArray, List.set_cons_zero, List.set_cons_succ]
            refine wpAnyH_ready (rs := [21]) (by kernel_rfl) (by simp) ?_
            refine AllReadyH.cons (o := _) rfl (fun K hK => ?_) ?_
            ·
              rw [if_pos (by rfl)]
              refine wp_load_mid 25 _ rfl gc oc rfl (feL (ad ((f 0 : Nat) : Int) 0)) _ hrc Try.underlying25 rfl feInfo ?_
              refine hK.out _ _ (hHeld) (fun hHeld => ?_)
              clear hK K
              try simp only [Act.put, List.setIfInBounds_toArray, List.set_cons_zero, List.set_cons_succ]
              refine take_val (v := (.bool true)) 22 (some 89) rfl (by kernel_rfl) (by kernel_rfl) (by kernel_rfl) (fun _ _ _ h => h) rfl rfl (fun w hSw => ?_) hHeld ?_
              · (go_simp; try with_reducible rfl)
              try simp only [Act.put, List.setIfInBounds_toArray, List.set_cons_zero, List.set_cons_succ]
              refine take_val (v := ?_) 23 (some 90) rfl (by kernel_rfl) (by kernel_rfl) (by kernel_rfl) (fun _ _ _ h => h) rfl rfl (fun w hSw => ?_) hHeld ?_
              rotate_left
              · (go_simp; try with_reducible rfl)
              try simp only [Act.put, List.setIfInBounds_toArray, List.set_cons_zero, List.set_cons_succ]
              refine take_val (v := ?_) 24 (some 91) rfl (by kernel_rfl) (by kernel_rfl) (by kernel_rfl) (fun _ _ _ h => h) rfl rfl (fun w hSw => ?_) hHeld ?_
              rotate_left
              · (go_simp; try with_reducible rfl)
              try simp only [Act.put, List.setIfInBounds_toArray, List.set_cons_zero, List.set_cons_succ]
              refine take_load 25 (some 92) (feC (ev f x 0 T)) rfl (by kernel_rfl) (by kernel_rfl) (by kernel_rfl) (fun _ _ _ h => h) rfl rfl 25 _ rfl ib rfl 25 _ (fun w h => Bi.chg h (by simp)) Try.underlying25 rfl (by first | exact feInfo | kernel_rfl) hHeld ?_
              try simp only [Act.put, List.setIfInBounds_toArray, List.set_cons_zero, List.set_cons_succ]
              refine take_val (v := ?_) 26 (some 93) rfl (by kernel_rfl) (by kernel_rfl) (by kernel_rfl) (fun _ _ _ h => h) rfl rfl (fun w hSw => ?_) hHeld ?_
              rotate_left
              · (go_simp; try with_reducible rfl)
              try simp only [Act.put, List.setIfInBounds_toArray, List.set_cons_zero, List.set_cons_succ]
              refine take_load 27 (some 94) (feC x) rfl (by kernel_rfl) (by kernel_rfl) (by kernel_rfl) (fun _ _ _ h => h) rfl rfl 25 _ rfl xb rfl 25 _ (fun w h => Bx.chg h (by simp)) Try.underlying25 rfl (by first | exact feInfo | kernel_rfl) hHeld ?_
              try simp only [Act.put, List.setIfInBounds_toArray, List.set_cons_zero, List.set_cons_succ]
              refine wpAnyH_ready (rs := [28]) (by kernel_rfl) (by simp) ?_
              refine AllReadyH.cons (o := _) rfl (fun K hK => ?_) ?_
              ·
                go_simp
                refine (Eval_s _ T f (by have := HT.out; omega) x HRx.out _ (HLa.out.chg0 (C.trans1 hHeld))).mono ?_
                rintro e w5 ⟨rfl, k⟩
                go_wp2_with fail
                refine hK.out _ _ (hHeld.trans1 k) (fun hHeld => ?_)
                clear hK K
                try simp only [Act.put, List.setIfInBounds_toArray, List.set_cons_zero, List.set_cons_succ]
                clear k hrc
                refine take_val (v := (.bool true)) 29 (some 96) rfl (by kernel_rfl) (by kernel_rfl) (by kernel_rfl) (fun _ _ _ h => h) rfl rfl (fun w hSw => ?_) hHeld ?_
                · (go_simp; try with_reducible rfl)
                try simp only [Act.put, List.setIfInBounds_toArray, List.set_cons_zero, List.set_cons_succ]
                refine take_val (v := ?_) 30 (some 97) rfl (by kernel_rfl) (by kernel_rfl) (by kernel_rfl) (fun _ _ _ h => h) rfl rfl (fun w hSw => ?_) hHeld ?_
                rotate_left
                · (go_simp; try with_reducible rfl)
                try simp only [Act.put, List.setIfInBounds_toArray, List.set_cons_zero, List.set_cons_succ]
                refine take_val (v := ?_) 31 (some 6) rfl (by kernel_rfl) (by kernel_rfl) (by kernel_rfl) (fun _ _ _ h => h) rfl rfl (fun w hSw => ?_) hHeld ?_
                rotate_left
                · (go_simp; try with_reducible rfl)
                try simp only [Act.put, List.setIfInBounds_toArray, List.set_cons_zero, List.set_cons_succ]
                refine wpAnyH_done (by kernel_rfl) ?_ _
                replace C := C.trans1 hHeld
                clear hHeld
                go_wp2_with fail
                go_ret
                exact ⟨rfl, C⟩
              exact AllReadyH.nil
            exact AllReadyH.nil
          exact AllReadyH.nil
        exact AllReadyH.nil
      exact AllReadyH.nil
    exact AllReadyH.nil
  · rcases P1 with ⟨_, rfl⟩ | ⟨hbad, _⟩
    · obtain ⟨E, hE⟩ : ∃ E, idR d N = E := ⟨_, rfl⟩
      have HE : Hid (idR d N = E) := hE
      rw [hE] at h0 ⊢
      have hw : IntKind.i64.wrap E = E := by
        rw [← hE]
        exact idR_wrap d N
      clear hE
      go_wp2_with (go_at_call 6; refine (numS E hw _).mono ?_; rintro e w' ⟨rfl, rfl⟩)
      refine (IDs_r _ N d HB.out.2 _ (HLi.out.chg C)).mono ?_
      rintro e w5 ⟨rfl, k⟩
      rw [HE.out]
      go_wp2_with fail
      go_ret
      exact ⟨rfl, C.trans1 k⟩
    · exact absurd hbad h0
end Go.Proofs.Ytemjpibmefggnaa
