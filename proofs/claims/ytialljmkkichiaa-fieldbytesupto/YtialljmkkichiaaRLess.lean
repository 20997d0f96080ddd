/- rimeref01: prime, atLeast, lessP. -/
import Derived.Test.YtialljmkkichiaaRNum
import Derived.Test.YtialljmkkichiaaEq
set_option linter.unusedVariables false
set_option linter.unusedSimpArgs false
set_option linter.unnecessarySimpa false
namespace Go.Proofs.Ytialljmkkichiaa
open Go.RowKit N

theorem nInfo16 (f : Nat → Nat) : (Try.prog.info? 84).map (·.size) = some (uC 16 f).size := by rw [uC_size]; kernel_rfl
theorem prime_r (i : Nat) (hi : i < 16) (w : World) : Calls Try.prog 107 #[.int .i64 (i : Int)] w fun e w' => e = .returned (.int .u64 ((dg PM i : Nat) : Int)) ∧ Chg w w' [] := by
  rw [dg_PM i hi]
  go_enter Try.func107, Try.ntmps107
  by_cases h0 : i = 0
  · subst h0
    go_wp2
    go_ret
    exact ⟨rfl, Chg.refl w []⟩
  · by_cases h15 : i = 15
    · subst h15
      go_wp2
      go_ret
      exact ⟨rfl, Chg.refl w []⟩
    · rw [if_neg h0, if_neg h15]
      have h1 : ¬ (i : Int) = 0 := by omega
      have h2 : ¬ (i : Int) = 15 := by omega
      go_wp2
      go_ret
      exact ⟨rfl, Chg.refl w []⟩

set_option maxHeartbeats 4000000 in
set_option maxRecDepth 100000 in
theorem atLeast_r (f : Nat → Nat) (hb : ∀ i, i < 16 → f i < 65536) (w : World) :
    Calls Try.prog 105 #[.agg (uC 16 f)] w fun e w' => e = .returned (.bool (decide (PM ≤ nv f 0 16))) ∧ Chg w w' [] := by
  have B0 := Blk.new w (uC 16 f) 84
  have C0 := (Chg.refl w []).alloc (.cells (uC 16 f) 84)
  go_enter Try.func105, Try.ntmps105
  go_wp2_with fail
  go_loopw [3] (fun t wr => ∃ k : Nat, k ≤ 16 ∧ t = .int .i64 ((k : Int) - 1) ∧ Blk wr w.heap.size (uC 16 f) 84 ∧ Chg w wr [] ∧ ∀ j, k ≤ j → j < 16 → f j = dg PM j) (fun t _ => (intOf t + 1).toNat)
  case atStart => exact ⟨16, by omega, rfl, B0, C0, fun j h1 h2 => absurd h2 (by omega)⟩
  case round =>
    obtain ⟨k, hk, rfl, b0, c0, ht⟩ := hrel
    clear B0 C0
    by_cases hk0 : k = 0
    · subst hk0
      have neg1 : ¬ (0 : Int) ≤ ((0 : Nat) : Int) - 1 := by omega
      have hge : decide (PM ≤ nv f 0 16) = true := by
        rw [nv_congr f (dg PM) 16 0 (fun i h1 h2 => ht i h1 (by omega)), nv_PM]
        exact decide_eq_true (Nat.le_refl _)
      go_wp2
      go_ret
      exact ⟨rfl, c0⟩
    · obtain ⟨i, rfl⟩ : ∃ i, k = i + 1 := ⟨k - 1, by omega⟩
      have e1 : (((i + 1 : Nat) : Int) - 1) = (i : Int) := by omega
      rw [e1]
      have hi : i < 16 := by omega
      have hiI : (i : Int) < 16 := by omega
      clear e1 hk0
      go_wp2_with fail
      by_cases hne : f i = dg PM i
      · have hq : ((f i : Nat) : Int) = ((dg PM i : Nat) : Int) := by rw [hne]
        refine wp_region_held_drew (S := fun w' => Chg wr w' []) (by kernel_rfl) ((Chg.refl wr []).drew) (fun hHeld => ?_)
        refine take_val (v := ?_) 0 (some 8) rfl (by kernel_rfl) (by kernel_rfl) (by kernel_rfl) (fun _ _ _ h => h) rfl rfl (fun w hSw => ?_) hHeld ?_
        rotate_left
        · (go_simp; try with_reducible rfl)
        try simp only [Act.put, List.setIfInBounds_toArray, List.set_cons_zero, List.set_cons_succ]
        refine take_val (v := ?_) 1 (some 9) rfl (by kernel_rfl) (by kernel_rfl) (by kernel_rfl) (fun _ _ _ h => h) rfl rfl (fun w hSw => ?_) hHeld ?_
        rotate_left
        · (go_simp; try with_reducible rfl)
        try simp only [Act.put, List.setIfInBounds_toArray, List.set_cons_zero, List.set_cons_succ]
        refine take_val (v := ?_) 2 (some 10) rfl (by kernel_rfl) (by kernel_rfl) (by kernel_rfl) (fun _ _ _ h => h) rfl rfl (fun w hSw => ?_) hHeld ?_
        rotate_left
        · have hc := ((b0.chg hSw (by simp)).cell i).trans (uC_get 16 f i hi)
          (go_simp; try with_reducible rfl)
        try simp only [Act.put, List.setIfInBounds_toArray, List.set_cons_zero, List.set_cons_succ]
        refine take_val (v := ?_) 3 (some 11) rfl (by kernel_rfl) (by kernel_rfl) (by kernel_rfl) (fun _ _ _ h => h) rfl rfl (fun w hSw => ?_) hHeld ?_
        rotate_left
        · (go_simp; try with_reducible rfl)
        try simp only [Act.put, List.setIfInBounds_toArray, List.set_cons_zero, List.set_cons_succ]
        refine wpAnyH_ready (rs := [4]) (by kernel_rfl) (by simp) ?_
        refine AllReadyH.cons (o := _) rfl (fun K hK => ?_) ?_
        ·
          go_simp
          refine (prime_r i hi _).mono ?_
          rintro e x1 ⟨rfl, k⟩
          go_wp2_with fail
          refine hK.out _ _ (hHeld.trans1 k) (fun hHeld => ?_)
          clear hK K
          try simp only [Act.put, List.setIfInBounds_toArray, List.set_cons_zero, List.set_cons_succ]
          refine take_val (v := (.bool false)) 5 (some 13) rfl (by kernel_rfl) (by kernel_rfl) (by kernel_rfl) (fun _ _ _ h => h) rfl rfl (fun w hSw => ?_) hHeld ?_
          · (go_simp; try with_reducible rfl)
          try simp only [Act.put, List.setIfInBounds_toArray, List.set_cons_zero, List.set_cons_succ]
          refine wpAnyH_done (by kernel_rfl) ?_ _
          go_wp2_with fail
          go_roundw
          case rel => exact ⟨i, by omega, rfl, b0.chg hHeld (by simp), c0.trans1 hHeld, fun j h1 h2 => by rcases Nat.eq_or_lt_of_le h1 with h | h; (subst h; exact hne); exact ht j h h2⟩
          case measure => simp [intOf]
        exact AllReadyH.nil
      · have hq : ¬ ((f i : Nat) : Int) = ((dg PM i : Nat) : Int) := by omega
        have hdec : dg PM i < f i ↔ PM ≤ nv f 0 16 := by
          by_cases hlt : dg PM i < f i
          · have := lex_lt f (dg PM) i hi (fun j _ => dg_lt PM j) hlt (fun j h1 h2 => ht j (by omega) h2)
            rw [nv_PM] at this
            constructor
            · intro _; omega
            · intro _; omega
          · have := lex_lt (dg PM) f i hi (fun j hj => hb j (by omega)) (by omega) (fun j h1 h2 => (ht j (by omega) h2).symm)
            rw [nv_PM] at this
            constructor
            · intro h; omega
            · intro h; omega
        replace hdec : Hid (dg PM i < f i ↔ PM ≤ nv f 0 16) := hdec
        refine wp_region_held_drew (S := fun w' => Chg wr w' []) (by kernel_rfl) ((Chg.refl wr []).drew) (fun hHeld => ?_)
        refine take_val (v := ?_) 0 (some 8) rfl (by kernel_rfl) (by kernel_rfl) (by kernel_rfl) (fun _ _ _ h => h) rfl rfl (fun w hSw => ?_) hHeld ?_
        rotate_left
        · (go_simp; try with_reducible rfl)
        try simp only [Act.put, List.setIfInBounds_toArray, List.set_cons_zero, List.set_cons_succ]
        refine take_val (v := ?_) 1 (some 9) rfl (by kernel_rfl) (by kernel_rfl) (by kernel_rfl) (fun _ _ _ h => h) rfl rfl (fun w hSw => ?_) hHeld ?_
        rotate_left
        · (go_simp; try with_reducible rfl)
        try simp only [Act.put, List.setIfInBounds_toArray, List.set_cons_zero, List.set_cons_succ]
        refine take_val (v := ?_) 2 (some 10) rfl (by kernel_rfl) (by kernel_rfl) (by kernel_rfl) (fun _ _ _ h => h) rfl rfl (fun w hSw => ?_) hHeld ?_
        rotate_left
        · have hc := ((b0.chg hSw (by simp)).cell i).trans (uC_get 16 f i hi)
          (go_simp; try with_reducible rfl)
        try simp only [Act.put, List.setIfInBounds_toArray, List.set_cons_zero, List.set_cons_succ]
        refine take_val (v := ?_) 3 (some 11) rfl (by kernel_rfl) (by kernel_rfl) (by kernel_rfl) (fun _ _ _ h => h) rfl rfl (fun w hSw => ?_) hHeld ?_
        rotate_left
        · (go_simp; try with_reducible rfl)
        try simp only [Act.put, List.setIfInBounds_toArray, List.set_cons_zero, List.set_cons_succ]
        refine wpAnyH_ready (rs := [4]) (by kernel_rfl) (by simp) ?_
        refine AllReadyH.cons (o := _) rfl (fun K hK => ?_) ?_
        ·
          go_simp
          refine (prime_r i hi _).mono ?_
          rintro e x1 ⟨rfl, k⟩
          go_wp2_with fail
          refine hK.out _ _ (hHeld.trans1 k) (fun hHeld => ?_)
          clear hK K
          try simp only [Act.put, List.setIfInBounds_toArray, List.set_cons_zero, List.set_cons_succ]
          refine take_val (v := (.bool true)) 5 (some 13) rfl (by kernel_rfl) (by kernel_rfl) (by kernel_rfl) (fun _ _ _ h => h) rfl rfl (fun w hSw => ?_) hHeld ?_
          · (go_simp; try with_reducible rfl)
          try simp only [Act.put, List.setIfInBounds_toArray, List.set_cons_zero, List.set_cons_succ]
          refine wpAnyH_done (by kernel_rfl) ?_ _
          go_wp2_with fail
          refine wp_region_held_drew (S := fun w' => Chg wr w' []) (by kernel_rfl) (hHeld.drew) (fun hHeld => ?_)
          refine take_val (v := ?_) 0 (some 14) rfl (by kernel_rfl) (by kernel_rfl) (by kernel_rfl) (fun _ _ _ h => h) rfl rfl (fun w hSw => ?_) hHeld ?_
          rotate_left
          · (go_simp; try with_reducible rfl)
          try simp only [Act.put, List.setIfInBounds_toArray, List.set_cons_zero, List.set_cons_succ]
          refine take_val (v := ?_) 1 (some 15) rfl (by kernel_rfl) (by kernel_rfl) (by kernel_rfl) (fun _ _ _ h => h) rfl rfl (fun w hSw => ?_) hHeld ?_
          rotate_left
          · (go_simp; try with_reducible rfl)
          try simp only [Act.put, List.setIfInBounds_toArray, List.set_cons_zero, List.set_cons_succ]
          refine take_val (v := ?_) 2 (some 16) rfl (by kernel_rfl) (by kernel_rfl) (by kernel_rfl) (fun _ _ _ h => h) rfl rfl (fun w hSw => ?_) hHeld ?_
          rotate_left
          · have hc := ((b0.chg hSw (by simp)).cell i).trans (uC_get 16 f i hi)
            (go_simp; try with_reducible rfl)
          try simp only [Act.put, List.setIfInBounds_toArray, List.set_cons_zero, List.set_cons_succ]
          refine take_val (v := ?_) 3 (some 17) rfl (by kernel_rfl) (by kernel_rfl) (by kernel_rfl) (fun _ _ _ h => h) rfl rfl (fun w hSw => ?_) hHeld ?_
          rotate_left
          · (go_simp; try with_reducible rfl)
          try simp only [Act.put, List.setIfInBounds_toArray, List.set_cons_zero, List.set_cons_succ]
          refine wpAnyH_ready (rs := [4]) (by kernel_rfl) (by simp) ?_
          refine AllReadyH.cons (o := _) rfl (fun K hK => ?_) ?_
          ·
            go_simp
            refine (prime_r i hi _).mono ?_
            rintro e x2 ⟨rfl, k⟩
            go_wp2_with fail
            refine hK.out _ _ (hHeld.trans1 k) (fun hHeld => ?_)
            clear hK K
            try simp only [Act.put, List.setIfInBounds_toArray, List.set_cons_zero, List.set_cons_succ]
            refine take_val (v := (.bool (decide (PM ≤ nv f 0 16)))) 5 (some 19) rfl (by kernel_rfl) (by kernel_rfl) (by kernel_rfl) (fun _ _ _ h => h) rfl rfl (fun w hSw => ?_) hHeld ?_
            · (go_simp; exact hdec.out)
            try simp only [Act.put, List.setIfInBounds_toArray, List.set_cons_zero, List.set_cons_succ]
            refine take_val (v := ?_) 6 (some 2) rfl (by kernel_rfl) (by kernel_rfl) (by kernel_rfl) (fun _ _ _ h => h) rfl rfl (fun w hSw => ?_) hHeld ?_
            rotate_left
            · (go_simp; try with_reducible rfl)
            try simp only [Act.put, List.setIfInBounds_toArray, List.set_cons_zero, List.set_cons_succ]
            refine wpAnyH_done (by kernel_rfl) ?_ _
            go_wp2
            go_ret
            exact ⟨rfl, c0.trans1 hHeld⟩
          exact AllReadyH.nil
        exact AllReadyH.nil

end Go.Proofs.Ytialljmkkichiaa
