/- ScalarDigits: the walk. -/
import Derived.Test.YtcdgkhejbdlapaaRfD
import Derived.Test.YtcdgkhejbdlapaaRfM
import Derived.Test.YtcdgkhejbdlapaaWorks
import Derived.Test.YtcdgkhejbdlapaaMath
set_option linter.unusedVariables false
set_option linter.unusedSimpArgs false
set_option linter.unnecessarySimpa false
namespace Go.Proofs.Ytcdgkhejbdlapaa
open Go.RowKit N

set_option maxHeartbeats 4000000 in
set_option maxRecDepth 100000 in
theorem Naf_rarg (a wd : Int) (h : wd < 2 ∨ 8 < wd) (w : World) :
    Calls Try.prog 52 #[fe a, .int .i64 wd] w fun e w' => e = .returned (.tuple #[.slice none 0 0, .int .i64 1]) ∧ Chg w w' [] := by
  have hc := (Chg.refl w []).alloc (.cells (feC a) 24)
  by_cases h1 : wd < 2
  · go_enter Try.func52, Try.ntmps52
    go_wp2_with fail
    go_ret2
    exact ⟨rfl, hc⟩
  · have h2 : 8 < wd := by omega
    go_enter Try.func52, Try.ntmps52
    go_wp2_with fail
    go_ret2
    exact ⟨rfl, hc⟩
/-- Both Nafs: one answer. -/
theorem nafs (m : Nat) (hm : m < 115792089237316195423570985008687907853269984665640564039457584007913129639936) (n : Nat) (hn : m % LN = n) (hI : (m : Int) % L = (n : Int)) (hl : n < 115792089237316195423570985008687907853269984665640564039457584007913129639936) (wd : Int) :
    ∃ (N : Nat) (F : Nat → Int) (E : Int), N ≤ 1000 ∧ (∀ w : World, Calls Try.prog 51 #[fe (m : Int), .int .i64 wd] w fun e w' => ∃ v, e = .returned (.tuple #[v, .int .i64 E]) ∧ Si w' v N F ∧ Chg w w' []) ∧
      (∀ w : World, Calls Try.prog 52 #[fe (m : Int), .int .i64 wd] w fun e w' => ∃ v, e = .returned (.tuple #[v, .int .i64 E]) ∧ Si w' v N F ∧ Chg w w' []) := by
  have ra : R256 (m : Int) := ⟨by omega, by omega⟩
  by_cases h : wd < 2 ∨ 8 < wd
  · exact ⟨0, fun _ => 0, 1, by decide, fun w => (Naf_arg (m : Int) wd h w).mono fun _ _ ⟨he, hc⟩ => ⟨_, he, Or.inl ⟨rfl, rfl⟩, hc⟩, fun w => (Naf_rarg (m : Int) wd h w).mono fun _ _ ⟨he, hc⟩ => ⟨_, he, Or.inl ⟨rfl, rfl⟩, hc⟩⟩
  · obtain ⟨k, rfl⟩ : ∃ k : Nat, wd = (k : Int) := ⟨wd.toNat, by omega⟩
    have h1 : 2 ≤ k := by omega
    have h2 : k ≤ 8 := by omega
    exact ⟨256, dn k n, 0, by decide, fun w => (Naf_s (m : Int) ra n k hI hl h1 h2 w).mono fun _ _ ⟨g, he, _, hb, hc⟩ => ⟨_, he, hb.si, hc⟩, fun w => Naf_r m hm n k hn hl h1 h2 w⟩
theorem val_n (m : Nat) (hm : m < 115792089237316195423570985008687907853269984665640564039457584007913129639936) : ∃ n, m % LN = n ∧ (m : Int) % L = (n : Int) ∧ n < 115792089237316195423570985008687907853269984665640564039457584007913129639936 := by
  refine ⟨m % LN, rfl, ?_, Nat.lt_of_le_of_lt (Nat.mod_le _ _) hm⟩
  rw [← LN_eq, Int.natCast_emod]
attribute [local irreducible] dd dn
set_option maxHeartbeats 16000000 in
set_option maxRecDepth 100000 in
theorem digits_walk (m : Nat) (hm : m < 115792089237316195423570985008687907853269984665640564039457584007913129639936) (wd : Int) (w : World) :
    Calls Try.prog 8 #[fe (m : Int), .int .i64 wd] w fun e w' => e = .returned (.bool true) ∧ Chg w w' [] := by
  have hge := feGuard
  have ra : R256 (m : Int) := ⟨by omega, by omega⟩
  obtain ⟨n, hn, hI, hnl⟩ := val_n m hm
  obtain ⟨N, F, E, hN, HX, HY⟩ := nafs m hm n hn hI hnl wd
  have HN : Hid ((m : Int) % L = (n : Int)) := hI
  have HM : Hid (m % LN = n) := hn
  clear hI hn
  have F0 := Blk.new w (feC (m : Int)) 24
  have CC := (Chg.refl w []).alloc (.cells (feC (m : Int)) 24)
  go_enter Try.func8, Try.ntmps8
  go_wp2_with (refine wpList_load_row rfl 24 _ rfl w.heap.size rfl 24 _ (0, 0) _ F0 Try.underlying24 rfl feInfo ?_)
  refine (HX _).mono ?_
  rintro e v1 ⟨vx, rfl, SX, k⟩
  replace F0 := F0.chg k (by simp)
  replace CC := CC.trans1 k
  clear k
  go_wp2_with (refine wpList_load_row rfl 24 _ rfl w.heap.size rfl 24 _ (0, 0) _ F0 Try.underlying24 rfl feInfo ?_)
  refine (HY _).mono ?_
  rintro e v2 ⟨vy, rfl, SY, k⟩
  replace F0 := F0.chg k (by simp)
  replace SX := SX.chg k
  replace CC := CC.trans1 k
  clear k HX HY
  go_wp2_with fail
  refine wp_region_held_drew (S := fun w' => Chg v2 w' []) (by kernel_rfl) ((Chg.refl v2 _).drew) (fun hHeld => ?_)
  replace SX := SX.chg (Chg.refl v2 []).drew
  replace SY := SY.chg (Chg.refl v2 []).drew
  refine take_load 0 (some 21) (feC (m : Int)) rfl (by kernel_rfl) (by kernel_rfl) (by kernel_rfl) (fun _ _ _ h => h) rfl rfl 24 _ rfl w.heap.size rfl 24 _ (fun w hSw => F0.chg hSw (by simp)) Try.underlying24 rfl (by first | exact feInfo | kernel_rfl) hHeld ?_
  try simp only [Act.put, List.setIfInBounds_toArray, List.set_cons_zero, List.set_cons_succ]
  refine take_load 2 (some 23) (feC (m : Int)) rfl (by kernel_rfl) (by kernel_rfl) (by kernel_rfl) (fun _ _ _ h => h) rfl rfl 24 _ rfl w.heap.size rfl 24 _ (fun w hSw => F0.chg hSw (by simp)) Try.underlying24 rfl (by first | exact feInfo | kernel_rfl) hHeld ?_
  try simp only [Act.put, List.setIfInBounds_toArray, List.set_cons_zero, List.set_cons_succ]
  refine wpAnyH_ready (rs := [1]) (by kernel_rfl) (by simp) ?_
  refine AllReadyH.cons (o := _) rfl (fun K hK => ?_) ?_
  ·
    go_simp
    refine (Digits_s (m : Int) ra n HN.out hnl _).mono ?_
    rintro e x1 ⟨g1, rfl, _, D1, k⟩
    have S1 := D1.si
    clear D1
    replace SX := SX.chg k
    replace SY := SY.chg k
    go_wp2_with fail
    refine hK.out _ _ (hHeld.trans1 k) (fun hHeld => ?_)
    clear hK K
    try simp only [Act.put, List.setIfInBounds_toArray, List.set_cons_zero, List.set_cons_succ]
    refine wpAnyH_ready (rs := [3]) (by kernel_rfl) (by simp) ?_
    refine AllReadyH.cons (o := _) rfl (fun K hK => ?_) ?_
    ·
      go_simp
      refine (Digits_r m hm n HM.out _).mono ?_
      rintro e x3 ⟨v3, rfl, S3, k⟩
      replace S1 := S1.chg k
      replace SX := SX.chg k
      replace SY := SY.chg k
      go_wp2_with fail
      refine hK.out _ _ (hHeld.trans1 k) (fun hHeld => ?_)
      clear hK K
      try simp only [Act.put, List.setIfInBounds_toArray, List.set_cons_zero, List.set_cons_succ]
      refine wpAnyH_ready (rs := [4]) (by kernel_rfl) (by simp) ?_
      refine AllReadyH.cons (o := _) rfl (fun K hK => ?_) ?_
      ·
        go_simp
        refine (SameInts_t _ _ 64 (dd n) (by decide) _ S1 S3).mono ?_
        rintro e x4 ⟨rfl, k⟩
        replace SX := SX.chg k
        replace SY := SY.chg k
        go_wp2_with fail
        refine hK.out _ _ (hHeld.trans1 k) (fun hHeld => ?_)
        clear hK K
        try simp only [Act.put, List.setIfInBounds_toArray, List.set_cons_zero, List.set_cons_succ]
        refine take_val (v := ?_) 5 (some 26) rfl (by kernel_rfl) (by kernel_rfl) (by kernel_rfl) (fun _ _ _ h => h) rfl rfl (fun w hSw => ?_) hHeld ?_
        rotate_left
        · (go_simp; try with_reducible rfl)
        try simp only [Act.put, List.setIfInBounds_toArray, List.set_cons_zero, List.set_cons_succ]
        refine take_val (v := ?_) 6 (some 27) rfl (by kernel_rfl) (by kernel_rfl) (by kernel_rfl) (fun _ _ _ h => h) rfl rfl (fun w hSw => ?_) hHeld ?_
        rotate_left
        · (go_simp; try with_reducible rfl)
        try simp only [Act.put, List.setIfInBounds_toArray, List.set_cons_zero, List.set_cons_succ]
        refine take_val (v := ?_) 7 (some 28) rfl (by kernel_rfl) (by kernel_rfl) (by kernel_rfl) (fun _ _ _ h => h) rfl rfl (fun w hSw => ?_) hHeld ?_
        rotate_left
        · (go_simp; try with_reducible rfl)
        try simp only [Act.put, List.setIfInBounds_toArray, List.set_cons_zero, List.set_cons_succ]
        refine wpAnyH_ready (rs := [8]) (by kernel_rfl) (by simp) ?_
        refine AllReadyH.cons (o := _) rfl (fun K hK => ?_) ?_
        ·
          go_simp
          refine (SameInts_t _ _ N F hN _ SX SY).mono ?_
          rintro e x8 ⟨rfl, k⟩
          go_wp2_with fail
          refine hK.out _ _ (hHeld.trans1 k) (fun hHeld => ?_)
          clear hK K
          try simp only [Act.put, List.setIfInBounds_toArray, List.set_cons_zero, List.set_cons_succ]
          refine take_val (v := ?_) 9 (some 30) rfl (by kernel_rfl) (by kernel_rfl) (by kernel_rfl) (fun _ _ _ h => h) rfl rfl (fun w hSw => ?_) hHeld ?_
          rotate_left
          · (go_simp; try with_reducible rfl)
          try simp only [Act.put, List.setIfInBounds_toArray, List.set_cons_zero, List.set_cons_succ]
          refine take_val (v := ?_) 10 (some 31) rfl (by kernel_rfl) (by kernel_rfl) (by kernel_rfl) (fun _ _ _ h => h) rfl rfl (fun w hSw => ?_) hHeld ?_
          rotate_left
          · (go_simp; try with_reducible rfl)
          try simp only [Act.put, List.setIfInBounds_toArray, List.set_cons_zero, List.set_cons_succ]
          refine take_val (v := ?_) 11 (some 32) rfl (by kernel_rfl) (by kernel_rfl) (by kernel_rfl) (fun _ _ _ h => h) rfl rfl (fun w hSw => ?_) hHeld ?_
          rotate_left
          · (go_simp; try with_reducible rfl)
          try simp only [Act.put, List.setIfInBounds_toArray, List.set_cons_zero, List.set_cons_succ]
          refine take_val (v := ?_) 13 (some 34) rfl (by kernel_rfl) (by kernel_rfl) (by kernel_rfl) (fun _ _ _ h => h) rfl rfl (fun w hSw => ?_) hHeld ?_
          rotate_left
          · (go_simp; try with_reducible rfl)
          try simp only [Act.put, List.setIfInBounds_toArray, List.set_cons_zero, List.set_cons_succ]
          refine wpAnyH_ready (rs := [12]) (by kernel_rfl) (by simp) ?_
          refine AllReadyH.cons (o := _) rfl (fun K hK => ?_) ?_
          ·
            go_simp
            refine (num_s E _).mono ?_
            rintro e x12 ⟨rfl, rfl⟩
            go_wp2_with fail
            refine hK.out _ _ (hHeld) (fun hHeld => ?_)
            clear hK K
            try simp only [Act.put, List.setIfInBounds_toArray, List.set_cons_zero, List.set_cons_succ]
            refine take_val (v := (.bool true)) 14 (some 35) rfl (by kernel_rfl) (by kernel_rfl) (by kernel_rfl) (fun _ _ _ h => h) rfl rfl (fun w hSw => ?_) hHeld ?_
            · (go_simp; try with_reducible rfl)
            try simp only [Act.put, List.setIfInBounds_toArray, List.set_cons_zero, List.set_cons_succ]
            refine take_val (v := ?_) 15 (some 36) rfl (by kernel_rfl) (by kernel_rfl) (by kernel_rfl) (fun _ _ _ h => h) rfl rfl (fun w hSw => ?_) hHeld ?_
            rotate_left
            · (go_simp; try with_reducible rfl)
            try simp only [Act.put, List.setIfInBounds_toArray, List.set_cons_zero, List.set_cons_succ]
            refine take_val (v := ?_) 16 (some 37) rfl (by kernel_rfl) (by kernel_rfl) (by kernel_rfl) (fun _ _ _ h => h) rfl rfl (fun w hSw => ?_) hHeld ?_
            rotate_left
            · (go_simp; try with_reducible rfl)
            try simp only [Act.put, List.setIfInBounds_toArray, List.set_cons_zero, List.set_cons_succ]
            refine wpAnyH_ready (rs := [17]) (by kernel_rfl) (by simp) ?_
            refine AllReadyH.cons (o := _) rfl (fun K hK => ?_) ?_
            ·
              go_simp
              refine (works_true _).mono ?_
              rintro e x17 ⟨rfl, k⟩
              go_wp2_with fail
              refine hK.out _ _ (hHeld.trans1 k) (fun hHeld => ?_)
              clear hK K
              try simp only [Act.put, List.setIfInBounds_toArray, List.set_cons_zero, List.set_cons_succ]
              refine take_val (v := ?_) 18 (some 39) rfl (by kernel_rfl) (by kernel_rfl) (by kernel_rfl) (fun _ _ _ h => h) rfl rfl (fun w hSw => ?_) hHeld ?_
              rotate_left
              · (go_simp; try with_reducible rfl)
              try simp only [Act.put, List.setIfInBounds_toArray, List.set_cons_zero, List.set_cons_succ]
              refine take_val (v := ?_) 19 (some 4) rfl (by kernel_rfl) (by kernel_rfl) (by kernel_rfl) (fun _ _ _ h => h) rfl rfl (fun w hSw => ?_) hHeld ?_
              rotate_left
              · (go_simp; try with_reducible rfl)
              try simp only [Act.put, List.setIfInBounds_toArray, List.set_cons_zero, List.set_cons_succ]
              refine wpAnyH_done (by kernel_rfl) ?_ _
              go_wp2_with fail
              go_ret
              exact ⟨rfl, CC.trans1 hHeld⟩
            exact AllReadyH.nil
          exact AllReadyH.nil
        exact AllReadyH.nil
      exact AllReadyH.nil
    exact AllReadyH.nil
  exact AllReadyH.nil
end Go.Proofs.Ytcdgkhejbdlapaa
