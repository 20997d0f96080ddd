/- seal: stir. -/
import Derived.Test.YtnopkojpgemldaaSeB
import Derived.Test.YtnopkojpgemldaaSeL
set_option linter.unusedVariables false
set_option linter.unusedSimpArgs false
set_option linter.unnecessarySimpa false
namespace Go.Proofs.Ytnopkojpgemldaa
open Go.RowKit

theorem up_ne (f : Nat → Nat) (i v j : Nat) (h : ¬ j = i) : up f i v j = f j := if_neg h
set_option maxHeartbeats 8000000 in
set_option maxRecDepth 100000 in
theorem stir_s (g : Nat) (s : Nat → Nat) (hs : V16 s) (w : World) (hb : Blk w g (tC 16 s) 89) :
    Calls Try.prog 65 #[.pointer (some ⟨g, 0, none⟩)] w fun e w' => e = .returned (.tuple #[]) ∧ Blk w' g (tC 16 (dbl s)) 89 ∧ Chg w w' [g] := by
  go_enter Try.func65, Try.ntmps65
  go_wp2_with fail
  go_loopw [7] (fun t wr => ∃ i : Nat, i ≤ 4 ∧ t = .int .i64 (i : Int) ∧ Blk wr g (tC 16 (cols s i)) 89 ∧ Chg w wr [g]) (fun t _ => (4 - intOf t).toNat)
  case atStart => exact ⟨0, by omega, rfl, hb, Chg.refl w _⟩
  case round =>
    obtain ⟨i, hi, rfl, b0, c0⟩ := hrel
    by_cases h8 : i < 4
    · have hI : (i : Int) < 4 := by omega
      have hI2 : (i : Int) < 16 := by omega
      have HV : Hid (V16 (cols s i)) := cols_V hs i (by omega)
      obtain ⟨X, hX⟩ : ∃ X, cols s i = X := ⟨_, rfl⟩
      have hN : Hid (cols s (i + 1) = qat X i (4 + i) (8 + i) (12 + i)) := by show cols s (i + 1) = _; rw [← hX]; rfl
      rw [hX] at b0 HV
      clear hX
      obtain ⟨j, hj⟩ : ∃ j, 4 + i = j := ⟨_, rfl⟩
      obtain ⟨k, hk⟩ : ∃ k, 8 + i = k := ⟨_, rfl⟩
      obtain ⟨l, hl⟩ : ∃ l, 12 + i = l := ⟨_, rfl⟩
      rw [hj, hk, hl] at hN
      have ej : IntKind.i64.wrap (4 + (i : Int)) = (j : Int) := by rw [IntKind.wrap_i64]; omega
      have ek : IntKind.i64.wrap (8 + (i : Int)) = (k : Int) := by rw [IntKind.wrap_i64]; omega
      have el : IntKind.i64.wrap (12 + (i : Int)) = (l : Int) := by rw [IntKind.wrap_i64]; omega
      have e1 : IntKind.i64.wrap ((i : Int) + 1) = (i : Int) + 1 := by rw [IntKind.wrap_i64]; omega
      have jb : (j : Int) < 16 := by omega
      have kb : (k : Int) < 16 := by omega
      have lb : (l : Int) < 16 := by omega
      have HN : Hid ((i < 16 ∧ j < 16 ∧ k < 16 ∧ l < 16) ∧ (i < j ∧ j < k ∧ k < l)) := ⟨⟨by omega, by omega, by omega, by omega⟩, by omega, by omega, by omega⟩
      have HQ : Hid (i + 1 ≤ 4 ∧ (4 - ((i : Int) + 1)).toNat < (4 - (i : Int)).toNat) := ⟨by omega, by omega⟩
      clear hj hk hl hi h8
      go_wp2_with fail
      have bk0 := b0.drew
      have ck0 := c0.drew
      refine lt_begin (fun w' => Blk w' g (tC 16 X) 89) (fun n => n == 42 || n == 45 || n == 48 || n == 51) (by kernel_rfl) ?_
      obtain ⟨z0, hz⟩ : ∃ z, z = wr.drew := ⟨_, rfl⟩
      rw [← hz] at bk0 ck0 ⊢
      clear hz
      have hHeld := bk0
      refine lt_val (v := ?_) 0 (some 11) rfl (by kernel_rfl) (by kernel_rfl) (by kernel_rfl) (fun _ _ _ h => h) rfl rfl (fun w => ?_) ?_
      rotate_left
      · (go_simp; try with_reducible rfl)
      try simp only [Act.put, List.setIfInBounds_toArray, List.set_cons_zero, List.set_cons_succ]
      refine lt_val (v := ?_) 1 (some 12) rfl (by kernel_rfl) (by kernel_rfl) (by kernel_rfl) (fun _ _ _ h => h) rfl rfl (fun w => ?_) ?_
      rotate_left
      · (go_simp; try with_reducible rfl)
      try simp only [Act.put, List.setIfInBounds_toArray, List.set_cons_zero, List.set_cons_succ]
      refine lt_val (v := ?_) 2 (some 13) rfl (by kernel_rfl) (by kernel_rfl) (by kernel_rfl) (fun _ _ _ h => h) rfl rfl (fun w => ?_) ?_
      rotate_left
      · (go_simp; try with_reducible rfl)
      try simp only [Act.put, List.setIfInBounds_toArray, List.set_cons_zero, List.set_cons_succ]
      refine lt_val (v := ?_) 3 (some 14) rfl (by kernel_rfl) (by kernel_rfl) (by kernel_rfl) (fun _ _ _ h => h) rfl rfl (fun w => ?_) ?_
      rotate_left
      · (go_simp; try with_reducible rfl)
      try simp only [Act.put, List.setIfInBounds_toArray, List.set_cons_zero, List.set_cons_succ]
      refine lt_val (v := ?_) 4 (some 15) rfl (by kernel_rfl) (by kernel_rfl) (by kernel_rfl) (fun _ _ _ h => h) rfl rfl (fun w => ?_) ?_
      rotate_left
      · (go_simp; try with_reducible rfl)
      try simp only [Act.put, List.setIfInBounds_toArray, List.set_cons_zero, List.set_cons_succ]
      refine lt_val (v := ?_) 5 (some 16) rfl (by kernel_rfl) (by kernel_rfl) (by kernel_rfl) (fun _ _ _ h => h) rfl rfl (fun w => ?_) ?_
      rotate_left
      · (go_simp; try with_reducible rfl)
      try simp only [Act.put, List.setIfInBounds_toArray, List.set_cons_zero, List.set_cons_succ]
      refine lt_val (v := ?_) 6 (some 17) rfl (by kernel_rfl) (by kernel_rfl) (by kernel_rfl) (fun _ _ _ h => h) rfl rfl (fun w => ?_) ?_
      rotate_left
      · (go_simp; try with_reducible rfl)
      try simp only [Act.put, List.setIfInBounds_toArray, List.set_cons_zero, List.set_cons_succ]
      refine lt_val (v := ?_) 7 (some 18) rfl (by kernel_rfl) (by kernel_rfl) (by kernel_rfl) (fun _ _ _ h => h) rfl rfl (fun w => ?_) ?_
      rotate_left
      · (go_simp; try with_reducible rfl)
      try simp only [Act.put, List.setIfInBounds_toArray, List.set_cons_zero, List.set_cons_succ]
      refine lt_val (v := ?_) 8 (some 19) rfl (by kernel_rfl) (by kernel_rfl) (by kernel_rfl) (fun _ _ _ h => h) rfl rfl (fun w => ?_) ?_
      rotate_left
      · (go_simp; try with_reducible rfl)
      try simp only [Act.put, List.setIfInBounds_toArray, List.set_cons_zero, List.set_cons_succ]
      refine lt_val (v := ?_) 9 (some 20) rfl (by kernel_rfl) (by kernel_rfl) (by kernel_rfl) (fun _ _ _ h => h) rfl rfl (fun w => ?_) ?_
      rotate_left
      · (go_simp; try with_reducible rfl)
      try simp only [Act.put, List.setIfInBounds_toArray, List.set_cons_zero, List.set_cons_succ]
      refine lt_val (v := ?_) 10 (some 21) rfl (by kernel_rfl) (by kernel_rfl) (by kernel_rfl) (fun _ _ _ h => h) rfl rfl (fun w => ?_) ?_
      rotate_left
      · (go_simp; try with_reducible rfl)
      try simp only [Act.put, List.setIfInBounds_toArray, List.set_cons_zero, List.set_cons_succ]
      refine lt_val (v := ?_) 11 (some 22) rfl (by kernel_rfl) (by kernel_rfl) (by kernel_rfl) (fun _ _ _ h => h) rfl rfl (fun w => ?_) ?_
      rotate_left
      · (go_simp; try with_reducible rfl)
      try simp only [Act.put, List.setIfInBounds_toArray, List.set_cons_zero, List.set_cons_succ]
      refine lt_val (v := ?_) 12 (some 23) rfl (by kernel_rfl) (by kernel_rfl) (by kernel_rfl) (fun _ _ _ h => h) rfl rfl (fun w => ?_) ?_
      rotate_left
      · (go_simp; try with_reducible rfl)
      try simp only [Act.put, List.setIfInBounds_toArray, List.set_cons_zero, List.set_cons_succ]
      refine lt_val (v := ?_) 13 (some 24) rfl (by kernel_rfl) (by kernel_rfl) (by kernel_rfl) (fun _ _ _ h => h) rfl rfl (fun w => ?_) ?_
      rotate_left
      · (go_simp; try with_reducible rfl)
      try simp only [Act.put, List.setIfInBounds_toArray, List.set_cons_zero, List.set_cons_succ]
      refine lt_val (v := ?_) 14 (some 25) rfl (by kernel_rfl) (by kernel_rfl) (by kernel_rfl) (fun _ _ _ h => h) rfl rfl (fun w => ?_) ?_
      rotate_left
      · (go_simp; try with_reducible rfl)
      try simp only [Act.put, List.setIfInBounds_toArray, List.set_cons_zero, List.set_cons_succ]
      refine lt_read (v := ?_) 15 (some 26) rfl (by kernel_rfl) (by kernel_rfl) (by kernel_rfl) (by kernel_rfl) (fun _ _ _ h => h) rfl rfl (fun w hSw => ?_) hHeld ?_
      rotate_left
      · have q := (hSw.cell i).trans (tC_get 16 X i HN.out.1.1); (go_simp; try with_reducible rfl)
      try simp only [Act.put, List.setIfInBounds_toArray, List.set_cons_zero, List.set_cons_succ]
      refine lt_val (v := ?_) 16 (some 27) rfl (by kernel_rfl) (by kernel_rfl) (by kernel_rfl) (fun _ _ _ h => h) rfl rfl (fun w => ?_) ?_
      rotate_left
      · (go_simp; try with_reducible rfl)
      try simp only [Act.put, List.setIfInBounds_toArray, List.set_cons_zero, List.set_cons_succ]
      refine lt_val (v := ?_) 17 (some 28) rfl (by kernel_rfl) (by kernel_rfl) (by kernel_rfl) (fun _ _ _ h => h) rfl rfl (fun w => ?_) ?_
      rotate_left
      · (go_simp; try with_reducible rfl)
      try simp only [Act.put, List.setIfInBounds_toArray, List.set_cons_zero, List.set_cons_succ]
      refine lt_val (v := ?_) 18 (some 29) rfl (by kernel_rfl) (by kernel_rfl) (by kernel_rfl) (fun _ _ _ h => h) rfl rfl (fun w => ?_) ?_
      rotate_left
      · (go_simp; try with_reducible rfl)
      try simp only [Act.put, List.setIfInBounds_toArray, List.set_cons_zero, List.set_cons_succ]
      refine lt_val (v := ?_) 19 (some 30) rfl (by kernel_rfl) (by kernel_rfl) (by kernel_rfl) (fun _ _ _ h => h) rfl rfl (fun w => ?_) ?_
      rotate_left
      · (go_simp; try with_reducible rfl)
      try simp only [Act.put, List.setIfInBounds_toArray, List.set_cons_zero, List.set_cons_succ]
      refine lt_val (v := ?_) 20 (some 31) rfl (by kernel_rfl) (by kernel_rfl) (by kernel_rfl) (fun _ _ _ h => h) rfl rfl (fun w => ?_) ?_
      rotate_left
      · (go_simp; try with_reducible rfl)
      try simp only [Act.put, List.setIfInBounds_toArray, List.set_cons_zero, List.set_cons_succ]
      refine lt_read (v := ?_) 21 (some 32) rfl (by kernel_rfl) (by kernel_rfl) (by kernel_rfl) (by kernel_rfl) (fun _ _ _ h => h) rfl rfl (fun w hSw => ?_) hHeld ?_
      rotate_left
      · have q := (hSw.cell j).trans (tC_get 16 X j HN.out.1.2.1); (go_simp; try with_reducible rfl)
      try simp only [Act.put, List.setIfInBounds_toArray, List.set_cons_zero, List.set_cons_succ]
      refine lt_val (v := ?_) 22 (some 33) rfl (by kernel_rfl) (by kernel_rfl) (by kernel_rfl) (fun _ _ _ h => h) rfl rfl (fun w => ?_) ?_
      rotate_left
      · (go_simp; try with_reducible rfl)
      try simp only [Act.put, List.setIfInBounds_toArray, List.set_cons_zero, List.set_cons_succ]
      refine lt_val (v := ?_) 23 (some 34) rfl (by kernel_rfl) (by kernel_rfl) (by kernel_rfl) (fun _ _ _ h => h) rfl rfl (fun w => ?_) ?_
      rotate_left
      · (go_simp; try with_reducible rfl)
      try simp only [Act.put, List.setIfInBounds_toArray, List.set_cons_zero, List.set_cons_succ]
      refine lt_val (v := ?_) 24 (some 35) rfl (by kernel_rfl) (by kernel_rfl) (by kernel_rfl) (fun _ _ _ h => h) rfl rfl (fun w => ?_) ?_
      rotate_left
      · (go_simp; try with_reducible rfl)
      try simp only [Act.put, List.setIfInBounds_toArray, List.set_cons_zero, List.set_cons_succ]
      refine lt_val (v := ?_) 25 (some 36) rfl (by kernel_rfl) (by kernel_rfl) (by kernel_rfl) (fun _ _ _ h => h) rfl rfl (fun w => ?_) ?_
      rotate_left
      · (go_simp; try with_reducible rfl)
      try simp only [Act.put, List.setIfInBounds_toArray, List.set_cons_zero, List.set_cons_succ]
      refine lt_val (v := ?_) 26 (some 37) rfl (by kernel_rfl) (by kernel_rfl) (by kernel_rfl) (fun _ _ _ h => h) rfl rfl (fun w => ?_) ?_
      rotate_left
      · (go_simp; try with_reducible rfl)
      try simp only [Act.put, List.setIfInBounds_toArray, List.set_cons_zero, List.set_cons_succ]
      refine lt_read (v := ?_) 27 (some 38) rfl (by kernel_rfl) (by kernel_rfl) (by kernel_rfl) (by kernel_rfl) (fun _ _ _ h => h) rfl rfl (fun w hSw => ?_) hHeld ?_
      rotate_left
      · have q := (hSw.cell k).trans (tC_get 16 X k HN.out.1.2.2.1); (go_simp; try with_reducible rfl)
      try simp only [Act.put, List.setIfInBounds_toArray, List.set_cons_zero, List.set_cons_succ]
      refine lt_val (v := ?_) 28 (some 39) rfl (by kernel_rfl) (by kernel_rfl) (by kernel_rfl) (fun _ _ _ h => h) rfl rfl (fun w => ?_) ?_
      rotate_left
      · (go_simp; try with_reducible rfl)
      try simp only [Act.put, List.setIfInBounds_toArray, List.set_cons_zero, List.set_cons_succ]
      refine lt_val (v := ?_) 29 (some 40) rfl (by kernel_rfl) (by kernel_rfl) (by kernel_rfl) (fun _ _ _ h => h) rfl rfl (fun w => ?_) ?_
      rotate_left
      · (go_simp; try with_reducible rfl)
      try simp only [Act.put, List.setIfInBounds_toArray, List.set_cons_zero, List.set_cons_succ]
      refine lt_val (v := ?_) 30 (some 41) rfl (by kernel_rfl) (by kernel_rfl) (by kernel_rfl) (fun _ _ _ h => h) rfl rfl (fun w => ?_) ?_
      rotate_left
      · (go_simp; try with_reducible rfl)
      try simp only [Act.put, List.setIfInBounds_toArray, List.set_cons_zero, List.set_cons_succ]
      refine lt_val (v := ?_) 31 (some 42) rfl (by kernel_rfl) (by kernel_rfl) (by kernel_rfl) (fun _ _ _ h => h) rfl rfl (fun w => ?_) ?_
      rotate_left
      · (go_simp; try with_reducible rfl)
      try simp only [Act.put, List.setIfInBounds_toArray, List.set_cons_zero, List.set_cons_succ]
      refine lt_val (v := ?_) 32 (some 43) rfl (by kernel_rfl) (by kernel_rfl) (by kernel_rfl) (fun _ _ _ h => h) rfl rfl (fun w => ?_) ?_
      rotate_left
      · (go_simp; try with_reducible rfl)
      try simp only [Act.put, List.setIfInBounds_toArray, List.set_cons_zero, List.set_cons_succ]
      refine lt_read (v := ?_) 33 (some 44) rfl (by kernel_rfl) (by kernel_rfl) (by kernel_rfl) (by kernel_rfl) (fun _ _ _ h => h) rfl rfl (fun w hSw => ?_) hHeld ?_
      rotate_left
      · have q := (hSw.cell l).trans (tC_get 16 X l HN.out.1.2.2.2); (go_simp; try with_reducible rfl)
      try simp only [Act.put, List.setIfInBounds_toArray, List.set_cons_zero, List.set_cons_succ]
      refine lt_val (v := ?_) 40 (some 50) rfl (by kernel_rfl) (by kernel_rfl) (by kernel_rfl) (fun _ _ _ h => h) rfl rfl (fun w => ?_) ?_
      rotate_left
      · (go_simp; try with_reducible rfl)
      try simp only [Act.put, List.setIfInBounds_toArray, List.set_cons_zero, List.set_cons_succ]
      refine lt_val (v := ?_) 43 (some 52) rfl (by kernel_rfl) (by kernel_rfl) (by kernel_rfl) (fun _ _ _ h => h) rfl rfl (fun w => ?_) ?_
      rotate_left
      · (go_simp; try with_reducible rfl)
      try simp only [Act.put, List.setIfInBounds_toArray, List.set_cons_zero, List.set_cons_succ]
      refine lt_val (v := ?_) 46 (some 54) rfl (by kernel_rfl) (by kernel_rfl) (by kernel_rfl) (fun _ _ _ h => h) rfl rfl (fun w => ?_) ?_
      rotate_left
      · (go_simp; try with_reducible rfl)
      try simp only [Act.put, List.setIfInBounds_toArray, List.set_cons_zero, List.set_cons_succ]
      refine lt_val (v := ?_) 49 (some 56) rfl (by kernel_rfl) (by kernel_rfl) (by kernel_rfl) (fun _ _ _ h => h) rfl rfl (fun w => ?_) ?_
      rotate_left
      · (go_simp; try with_reducible rfl)
      try simp only [Act.put, List.setIfInBounds_toArray, List.set_cons_zero, List.set_cons_succ]
      refine lt_one 34 rfl (by kernel_rfl) rfl (fun K hK => ?_)
      go_simp
      refine (quarter_s (X i) (X j) (X k) (X l) (HV.out _ HN.out.1.1) (HV.out _ HN.out.1.2.1) (HV.out _ HN.out.1.2.2.1) (HV.out _ HN.out.1.2.2.2) _).mono ?_
      rintro e v1 ⟨rfl, rfl⟩
      go_wp2_with fail
      refine hK.out _ _ (fun _ h => h) ?_
      clear hK K
      try simp only [Act.put, List.setIfInBounds_toArray, List.set_cons_zero, List.set_cons_succ]
      refine lt_val (v := ?_) 35 (some 10) rfl (by kernel_rfl) (by kernel_rfl) (by kernel_rfl) (fun _ _ _ h => h) rfl rfl (fun w => ?_) ?_
      rotate_left
      · (go_simp; try with_reducible rfl)
      try simp only [Act.put, List.setIfInBounds_toArray, List.set_cons_zero, List.set_cons_succ]
      refine lt_val (v := ?_) 36 (some 46) rfl (by kernel_rfl) (by kernel_rfl) (by kernel_rfl) (fun _ _ _ h => h) rfl rfl (fun w => ?_) ?_
      rotate_left
      · (go_simp; try with_reducible rfl)
      try simp only [Act.put, List.setIfInBounds_toArray, List.set_cons_zero, List.set_cons_succ]
      refine lt_val (v := ?_) 37 (some 47) rfl (by kernel_rfl) (by kernel_rfl) (by kernel_rfl) (fun _ _ _ h => h) rfl rfl (fun w => ?_) ?_
      rotate_left
      · (go_simp; try with_reducible rfl)
      try simp only [Act.put, List.setIfInBounds_toArray, List.set_cons_zero, List.set_cons_succ]
      refine lt_val (v := ?_) 38 (some 48) rfl (by kernel_rfl) (by kernel_rfl) (by kernel_rfl) (fun _ _ _ h => h) rfl rfl (fun w => ?_) ?_
      rotate_left
      · (go_simp; try with_reducible rfl)
      try simp only [Act.put, List.setIfInBounds_toArray, List.set_cons_zero, List.set_cons_succ]
      refine lt_val (v := ?_) 39 (some 49) rfl (by kernel_rfl) (by kernel_rfl) (by kernel_rfl) (fun _ _ _ h => h) rfl rfl (fun w => ?_) ?_
      rotate_left
      · (go_simp; try with_reducible rfl)
      try simp only [Act.put, List.setIfInBounds_toArray, List.set_cons_zero, List.set_cons_succ]
      refine lt_val (v := ?_) 41 (some 51) rfl (by kernel_rfl) (by kernel_rfl) (by kernel_rfl) (fun _ _ _ h => h) rfl rfl (fun w => ?_) ?_
      rotate_left
      · (go_simp; try with_reducible rfl)
      try simp only [Act.put, List.setIfInBounds_toArray, List.set_cons_zero, List.set_cons_succ]
      refine lt_one 42 rfl (by kernel_rfl) rfl (fun K hK => ?_)
      have cx := (bk0.cell i).trans (tC_get 16 _ i HN.out.1.1)
      have fx := bk0.frozen i
      have bk1 := (bk0.setCell i (.int .u32 (q5 (X i) (X j) (X k) (X l) : Nat))).to (tC_set 16 _ i (q5 (X i) (X j) (X k) (X l)))
      have ck1 := ck0.setIn (k := g) (by simp) i (.int .u32 (q5 (X i) (X j) (X k) (X l) : Nat))
      go_simp
      refine hK.out _ _ (fun h => absurd h (by decide)) ?_
      clear cx fx bk0 ck0
      obtain ⟨z1, hz⟩ : ∃ z, z = (v1.setCell ⟨g, i, none⟩ (.int .u32 (q5 (X i) (X j) (X k) (X l) : Nat)) : World) := ⟨_, rfl⟩
      rw [← hz] at bk1 ck1 ⊢
      clear hz
      clear hK K
      try simp only [Act.put, List.setIfInBounds_toArray, List.set_cons_zero, List.set_cons_succ]
      refine lt_val (v := ?_) 44 (some 53) rfl (by kernel_rfl) (by kernel_rfl) (by kernel_rfl) (fun _ _ _ h => h) rfl rfl (fun w => ?_) ?_
      rotate_left
      · (go_simp; try with_reducible rfl)
      try simp only [Act.put, List.setIfInBounds_toArray, List.set_cons_zero, List.set_cons_succ]
      refine lt_one 45 rfl (by kernel_rfl) rfl (fun K hK => ?_)
      have cx := (bk1.cell j).trans (tC_get 16 _ j HN.out.1.2.1)
      have fx := bk1.frozen j
      have bk2 := (bk1.setCell j (.int .u32 (q8 (X i) (X j) (X k) (X l) : Nat))).to (tC_set 16 _ j (q8 (X i) (X j) (X k) (X l)))
      have ck2 := ck1.setIn (k := g) (by simp) j (.int .u32 (q8 (X i) (X j) (X k) (X l) : Nat))
      go_simp
      refine hK.out _ _ (fun h => absurd h (by decide)) ?_
      clear cx fx bk1 ck1
      obtain ⟨z2, hz⟩ : ∃ z, z = (z1.setCell ⟨g, j, none⟩ (.int .u32 (q8 (X i) (X j) (X k) (X l) : Nat)) : World) := ⟨_, rfl⟩
      rw [← hz] at bk2 ck2 ⊢
      clear hz
      clear hK K
      try simp only [Act.put, List.setIfInBounds_toArray, List.set_cons_zero, List.set_cons_succ]
      refine lt_val (v := ?_) 47 (some 55) rfl (by kernel_rfl) (by kernel_rfl) (by kernel_rfl) (fun _ _ _ h => h) rfl rfl (fun w => ?_) ?_
      rotate_left
      · (go_simp; try with_reducible rfl)
      try simp only [Act.put, List.setIfInBounds_toArray, List.set_cons_zero, List.set_cons_succ]
      refine lt_one 48 rfl (by kernel_rfl) rfl (fun K hK => ?_)
      have cx := (bk2.cell k).trans (tC_get 16 _ k HN.out.1.2.2.1)
      have fx := bk2.frozen k
      have bk3 := (bk2.setCell k (.int .u32 (q7 (X i) (X j) (X k) (X l) : Nat))).to (tC_set 16 _ k (q7 (X i) (X j) (X k) (X l)))
      have ck3 := ck2.setIn (k := g) (by simp) k (.int .u32 (q7 (X i) (X j) (X k) (X l) : Nat))
      go_simp
      refine hK.out _ _ (fun h => absurd h (by decide)) ?_
      clear cx fx bk2 ck2
      obtain ⟨z3, hz⟩ : ∃ z, z = (z2.setCell ⟨g, k, none⟩ (.int .u32 (q7 (X i) (X j) (X k) (X l) : Nat)) : World) := ⟨_, rfl⟩
      rw [← hz] at bk3 ck3 ⊢
      clear hz
      clear hK K
      try simp only [Act.put, List.setIfInBounds_toArray, List.set_cons_zero, List.set_cons_succ]
      refine lt_val (v := ?_) 50 (some 57) rfl (by kernel_rfl) (by kernel_rfl) (by kernel_rfl) (fun _ _ _ h => h) rfl rfl (fun w => ?_) ?_
      rotate_left
      · (go_simp; try with_reducible rfl)
      try simp only [Act.put, List.setIfInBounds_toArray, List.set_cons_zero, List.set_cons_succ]
      refine lt_one 51 rfl (by kernel_rfl) rfl (fun K hK => ?_)
      have cx := (bk3.cell l).trans (tC_get 16 _ l HN.out.1.2.2.2)
      have fx := bk3.frozen l
      have bk4 := (bk3.setCell l (.int .u32 (q6 (X i) (X j) (X k) (X l) : Nat))).to (tC_set 16 _ l (q6 (X i) (X j) (X k) (X l)))
      have ck4 := ck3.setIn (k := g) (by simp) l (.int .u32 (q6 (X i) (X j) (X k) (X l) : Nat))
      go_simp
      refine hK.out _ _ (fun h => absurd h (by decide)) ?_
      clear cx fx bk3 ck3
      obtain ⟨z4, hz⟩ : ∃ z, z = (z3.setCell ⟨g, l, none⟩ (.int .u32 (q6 (X i) (X j) (X k) (X l) : Nat)) : World) := ⟨_, rfl⟩
      rw [← hz] at bk4 ck4 ⊢
      clear hz
      clear hK K
      try simp only [Act.put, List.setIfInBounds_toArray, List.set_cons_zero, List.set_cons_succ]
      refine lt_done (by kernel_rfl) ?_ _
      rw [show up (up (up (up X i (q5 (X i) (X j) (X k) (X l))) j (q8 (X i) (X j) (X k) (X l))) k (q7 (X i) (X j) (X k) (X l))) l (q6 (X i) (X j) (X k) (X l)) = qat X i j k l from rfl, ← hN.out] at bk4
      go_wp2_with fail
      exact ⟨⟨i + 1, HQ.out.1, by go_num, bk4, ck4⟩, by have := HQ.out.2; simpa [intOf] using this⟩
    · obtain rfl : i = 4 := by omega
      go_wp2_with fail
      go_loopw [59] (fun t wr => ∃ i : Nat, i ≤ 4 ∧ t = .int .i64 (i : Int) ∧ Blk wr g (tC 16 (dias (cols s 4) i)) 89 ∧ Chg w wr [g]) (fun t _ => (4 - intOf t).toNat)
      case atStart => exact ⟨0, by omega, rfl, b0, c0⟩
      case round =>
        clear b0 c0 hi h8
        obtain ⟨i, hi, rfl, b0, c0⟩ := hrel
        by_cases h8 : i < 4
        · have hI : (i : Int) < 4 := by omega
          have HV : Hid (V16 (dias (cols s 4) i)) := dias_V (cols_V hs 4 (by omega)) i (by omega)
          obtain ⟨X, hX⟩ : ∃ X, dias (cols s 4) i = X := ⟨_, rfl⟩
          have hN : Hid (dias (cols s 4) (i + 1) = qat X i (4 + (i + 1) % 4) (8 + (i + 2) % 4) (12 + (i + 3) % 4)) := by show dias (cols s 4) (i + 1) = _; rw [← hX]; rfl
          rw [hX] at b0 HV
          clear hX
          obtain ⟨j, hj⟩ : ∃ j, 4 + (i + 1) % 4 = j := ⟨_, rfl⟩
          obtain ⟨k, hk⟩ : ∃ k, 8 + (i + 2) % 4 = k := ⟨_, rfl⟩
          obtain ⟨l, hl⟩ : ∃ l, 12 + (i + 3) % 4 = l := ⟨_, rfl⟩
          rw [hj, hk, hl] at hN
          have HE : Hid ((4 + ((i : Int) + 1) % 4 = (j : Int) ∧ 8 + ((i : Int) + 2) % 4 = (k : Int)) ∧ 12 + ((i : Int) + 3) % 4 = (l : Int)) := ⟨⟨by omega, by omega⟩, by omega⟩
          have HN : Hid ((i < 16 ∧ j < 16 ∧ k < 16 ∧ l < 16) ∧ (i < j ∧ j < k ∧ k < l)) := ⟨⟨by omega, by omega, by omega, by omega⟩, by omega, by omega, by omega⟩
          have HQ : Hid (i + 1 ≤ 4 ∧ (4 - ((i : Int) + 1)).toNat < (4 - (i : Int)).toNat) := ⟨by omega, by omega⟩
          clear hj hk hl hi h8
          go_wp2_with fail
          rw [HE.out.1.1, HE.out.1.2, HE.out.2]
          have hI2 : (i : Int) < 16 := by have := HN.out.1.1; omega
          have jb : (j : Int) < 16 := by have := HN.out.1.2.1; omega
          have kb : (k : Int) < 16 := by have := HN.out.1.2.2.1; omega
          have lb : (l : Int) < 16 := by have := HN.out.1.2.2.2; omega
          have e1 : IntKind.i64.wrap ((i : Int) + 1) = (i : Int) + 1 := by rw [IntKind.wrap_i64]; omega
          have bk0 := b0.drew
          have ck0 := c0.drew
          refine lt_begin (fun w' => Blk w' g (tC 16 X) 89) (fun n => n == 36 || n == 39 || n == 42 || n == 45) (by kernel_rfl) ?_
          obtain ⟨z0, hz⟩ : ∃ z, z = wr.drew := ⟨_, rfl⟩
          rw [← hz] at bk0 ck0 ⊢
          clear hz
          have hHeld := bk0
          refine lt_val (v := ?_) 0 (some 75) rfl (by kernel_rfl) (by kernel_rfl) (by kernel_rfl) (fun _ _ _ h => h) rfl rfl (fun w => ?_) ?_
          rotate_left
          · (go_simp; try with_reducible rfl)
          try simp only [Act.put, List.setIfInBounds_toArray, List.set_cons_zero, List.set_cons_succ]
          refine lt_val (v := ?_) 1 (some 76) rfl (by kernel_rfl) (by kernel_rfl) (by kernel_rfl) (fun _ _ _ h => h) rfl rfl (fun w => ?_) ?_
          rotate_left
          · (go_simp; try with_reducible rfl)
          try simp only [Act.put, List.setIfInBounds_toArray, List.set_cons_zero, List.set_cons_succ]
          refine lt_val (v := ?_) 2 (some 77) rfl (by kernel_rfl) (by kernel_rfl) (by kernel_rfl) (fun _ _ _ h => h) rfl rfl (fun w => ?_) ?_
          rotate_left
          · (go_simp; try with_reducible rfl)
          try simp only [Act.put, List.setIfInBounds_toArray, List.set_cons_zero, List.set_cons_succ]
          refine lt_val (v := ?_) 3 (some 78) rfl (by kernel_rfl) (by kernel_rfl) (by kernel_rfl) (fun _ _ _ h => h) rfl rfl (fun w => ?_) ?_
          rotate_left
          · (go_simp; try with_reducible rfl)
          try simp only [Act.put, List.setIfInBounds_toArray, List.set_cons_zero, List.set_cons_succ]
          refine lt_val (v := ?_) 4 (some 79) rfl (by kernel_rfl) (by kernel_rfl) (by kernel_rfl) (fun _ _ _ h => h) rfl rfl (fun w => ?_) ?_
          rotate_left
          · (go_simp; try with_reducible rfl)
          try simp only [Act.put, List.setIfInBounds_toArray, List.set_cons_zero, List.set_cons_succ]
          refine lt_val (v := ?_) 5 (some 80) rfl (by kernel_rfl) (by kernel_rfl) (by kernel_rfl) (fun _ _ _ h => h) rfl rfl (fun w => ?_) ?_
          rotate_left
          · (go_simp; try with_reducible rfl)
          try simp only [Act.put, List.setIfInBounds_toArray, List.set_cons_zero, List.set_cons_succ]
          refine lt_val (v := ?_) 6 (some 81) rfl (by kernel_rfl) (by kernel_rfl) (by kernel_rfl) (fun _ _ _ h => h) rfl rfl (fun w => ?_) ?_
          rotate_left
          · (go_simp; try with_reducible rfl)
          try simp only [Act.put, List.setIfInBounds_toArray, List.set_cons_zero, List.set_cons_succ]
          refine lt_val (v := ?_) 7 (some 82) rfl (by kernel_rfl) (by kernel_rfl) (by kernel_rfl) (fun _ _ _ h => h) rfl rfl (fun w => ?_) ?_
          rotate_left
          · (go_simp; try with_reducible rfl)
          try simp only [Act.put, List.setIfInBounds_toArray, List.set_cons_zero, List.set_cons_succ]
          refine lt_val (v := ?_) 8 (some 83) rfl (by kernel_rfl) (by kernel_rfl) (by kernel_rfl) (fun _ _ _ h => h) rfl rfl (fun w => ?_) ?_
          rotate_left
          · (go_simp; try with_reducible rfl)
          try simp only [Act.put, List.setIfInBounds_toArray, List.set_cons_zero, List.set_cons_succ]
          refine lt_val (v := ?_) 9 (some 84) rfl (by kernel_rfl) (by kernel_rfl) (by kernel_rfl) (fun _ _ _ h => h) rfl rfl (fun w => ?_) ?_
          rotate_left
          · (go_simp; try with_reducible rfl)
          try simp only [Act.put, List.setIfInBounds_toArray, List.set_cons_zero, List.set_cons_succ]
          refine lt_val (v := ?_) 10 (some 85) rfl (by kernel_rfl) (by kernel_rfl) (by kernel_rfl) (fun _ _ _ h => h) rfl rfl (fun w => ?_) ?_
          rotate_left
          · (go_simp; try with_reducible rfl)
          try simp only [Act.put, List.setIfInBounds_toArray, List.set_cons_zero, List.set_cons_succ]
          refine lt_val (v := ?_) 11 (some 86) rfl (by kernel_rfl) (by kernel_rfl) (by kernel_rfl) (fun _ _ _ h => h) rfl rfl (fun w => ?_) ?_
          rotate_left
          · (go_simp; try with_reducible rfl)
          try simp only [Act.put, List.setIfInBounds_toArray, List.set_cons_zero, List.set_cons_succ]
          refine lt_read (v := ?_) 12 (some 87) rfl (by kernel_rfl) (by kernel_rfl) (by kernel_rfl) (by kernel_rfl) (fun _ _ _ h => h) rfl rfl (fun w hSw => ?_) hHeld ?_
          rotate_left
          · have q := (hSw.cell i).trans (tC_get 16 X i HN.out.1.1); (go_simp; try with_reducible rfl)
          try simp only [Act.put, List.setIfInBounds_toArray, List.set_cons_zero, List.set_cons_succ]
          refine lt_val (v := ?_) 13 (some 88) rfl (by kernel_rfl) (by kernel_rfl) (by kernel_rfl) (fun _ _ _ h => h) rfl rfl (fun w => ?_) ?_
          rotate_left
          · (go_simp; try with_reducible rfl)
          try simp only [Act.put, List.setIfInBounds_toArray, List.set_cons_zero, List.set_cons_succ]
          refine lt_val (v := ?_) 14 (some 89) rfl (by kernel_rfl) (by kernel_rfl) (by kernel_rfl) (fun _ _ _ h => h) rfl rfl (fun w => ?_) ?_
          rotate_left
          · (go_simp; try with_reducible rfl)
          try simp only [Act.put, List.setIfInBounds_toArray, List.set_cons_zero, List.set_cons_succ]
          refine lt_val (v := ?_) 15 (some 90) rfl (by kernel_rfl) (by kernel_rfl) (by kernel_rfl) (fun _ _ _ h => h) rfl rfl (fun w => ?_) ?_
          rotate_left
          · (go_simp; try with_reducible rfl)
          try simp only [Act.put, List.setIfInBounds_toArray, List.set_cons_zero, List.set_cons_succ]
          refine lt_val (v := ?_) 16 (some 91) rfl (by kernel_rfl) (by kernel_rfl) (by kernel_rfl) (fun _ _ _ h => h) rfl rfl (fun w => ?_) ?_
          rotate_left
          · (go_simp; try with_reducible rfl)
          try simp only [Act.put, List.setIfInBounds_toArray, List.set_cons_zero, List.set_cons_succ]
          refine lt_read (v := ?_) 17 (some 92) rfl (by kernel_rfl) (by kernel_rfl) (by kernel_rfl) (by kernel_rfl) (fun _ _ _ h => h) rfl rfl (fun w hSw => ?_) hHeld ?_
          rotate_left
          · have q := (hSw.cell j).trans (tC_get 16 X j HN.out.1.2.1); (go_simp; try with_reducible rfl)
          try simp only [Act.put, List.setIfInBounds_toArray, List.set_cons_zero, List.set_cons_succ]
          refine lt_val (v := ?_) 18 (some 93) rfl (by kernel_rfl) (by kernel_rfl) (by kernel_rfl) (fun _ _ _ h => h) rfl rfl (fun w => ?_) ?_
          rotate_left
          · (go_simp; try with_reducible rfl)
          try simp only [Act.put, List.setIfInBounds_toArray, List.set_cons_zero, List.set_cons_succ]
          refine lt_val (v := ?_) 19 (some 94) rfl (by kernel_rfl) (by kernel_rfl) (by kernel_rfl) (fun _ _ _ h => h) rfl rfl (fun w => ?_) ?_
          rotate_left
          · (go_simp; try with_reducible rfl)
          try simp only [Act.put, List.setIfInBounds_toArray, List.set_cons_zero, List.set_cons_succ]
          refine lt_val (v := ?_) 20 (some 95) rfl (by kernel_rfl) (by kernel_rfl) (by kernel_rfl) (fun _ _ _ h => h) rfl rfl (fun w => ?_) ?_
          rotate_left
          · (go_simp; try with_reducible rfl)
          try simp only [Act.put, List.setIfInBounds_toArray, List.set_cons_zero, List.set_cons_succ]
          refine lt_val (v := ?_) 21 (some 96) rfl (by kernel_rfl) (by kernel_rfl) (by kernel_rfl) (fun _ _ _ h => h) rfl rfl (fun w => ?_) ?_
          rotate_left
          · (go_simp; try with_reducible rfl)
          try simp only [Act.put, List.setIfInBounds_toArray, List.set_cons_zero, List.set_cons_succ]
          refine lt_read (v := ?_) 22 (some 97) rfl (by kernel_rfl) (by kernel_rfl) (by kernel_rfl) (by kernel_rfl) (fun _ _ _ h => h) rfl rfl (fun w hSw => ?_) hHeld ?_
          rotate_left
          · have q := (hSw.cell k).trans (tC_get 16 X k HN.out.1.2.2.1); (go_simp; try with_reducible rfl)
          try simp only [Act.put, List.setIfInBounds_toArray, List.set_cons_zero, List.set_cons_succ]
          refine lt_val (v := ?_) 23 (some 98) rfl (by kernel_rfl) (by kernel_rfl) (by kernel_rfl) (fun _ _ _ h => h) rfl rfl (fun w => ?_) ?_
          rotate_left
          · (go_simp; try with_reducible rfl)
          try simp only [Act.put, List.setIfInBounds_toArray, List.set_cons_zero, List.set_cons_succ]
          refine lt_val (v := ?_) 24 (some 99) rfl (by kernel_rfl) (by kernel_rfl) (by kernel_rfl) (fun _ _ _ h => h) rfl rfl (fun w => ?_) ?_
          rotate_left
          · (go_simp; try with_reducible rfl)
          try simp only [Act.put, List.setIfInBounds_toArray, List.set_cons_zero, List.set_cons_succ]
          refine lt_val (v := ?_) 25 (some 100) rfl (by kernel_rfl) (by kernel_rfl) (by kernel_rfl) (fun _ _ _ h => h) rfl rfl (fun w => ?_) ?_
          rotate_left
          · (go_simp; try with_reducible rfl)
          try simp only [Act.put, List.setIfInBounds_toArray, List.set_cons_zero, List.set_cons_succ]
          refine lt_val (v := ?_) 26 (some 101) rfl (by kernel_rfl) (by kernel_rfl) (by kernel_rfl) (fun _ _ _ h => h) rfl rfl (fun w => ?_) ?_
          rotate_left
          · (go_simp; try with_reducible rfl)
          try simp only [Act.put, List.setIfInBounds_toArray, List.set_cons_zero, List.set_cons_succ]
          refine lt_read (v := ?_) 27 (some 102) rfl (by kernel_rfl) (by kernel_rfl) (by kernel_rfl) (by kernel_rfl) (fun _ _ _ h => h) rfl rfl (fun w hSw => ?_) hHeld ?_
          rotate_left
          · have q := (hSw.cell l).trans (tC_get 16 X l HN.out.1.2.2.2); (go_simp; try with_reducible rfl)
          try simp only [Act.put, List.setIfInBounds_toArray, List.set_cons_zero, List.set_cons_succ]
          refine lt_val (v := ?_) 34 (some 108) rfl (by kernel_rfl) (by kernel_rfl) (by kernel_rfl) (fun _ _ _ h => h) rfl rfl (fun w => ?_) ?_
          rotate_left
          · (go_simp; try with_reducible rfl)
          try simp only [Act.put, List.setIfInBounds_toArray, List.set_cons_zero, List.set_cons_succ]
          refine lt_val (v := ?_) 37 (some 110) rfl (by kernel_rfl) (by kernel_rfl) (by kernel_rfl) (fun _ _ _ h => h) rfl rfl (fun w => ?_) ?_
          rotate_left
          · (go_simp; try with_reducible rfl)
          try simp only [Act.put, List.setIfInBounds_toArray, List.set_cons_zero, List.set_cons_succ]
          refine lt_val (v := ?_) 40 (some 112) rfl (by kernel_rfl) (by kernel_rfl) (by kernel_rfl) (fun _ _ _ h => h) rfl rfl (fun w => ?_) ?_
          rotate_left
          · (go_simp; try with_reducible rfl)
          try simp only [Act.put, List.setIfInBounds_toArray, List.set_cons_zero, List.set_cons_succ]
          refine lt_val (v := ?_) 43 (some 114) rfl (by kernel_rfl) (by kernel_rfl) (by kernel_rfl) (fun _ _ _ h => h) rfl rfl (fun w => ?_) ?_
          rotate_left
          · (go_simp; try with_reducible rfl)
          try simp only [Act.put, List.setIfInBounds_toArray, List.set_cons_zero, List.set_cons_succ]
          refine lt_one 28 rfl (by kernel_rfl) rfl (fun K hK => ?_)
          go_simp
          refine (quarter_s (X i) (X j) (X k) (X l) (HV.out _ HN.out.1.1) (HV.out _ HN.out.1.2.1) (HV.out _ HN.out.1.2.2.1) (HV.out _ HN.out.1.2.2.2) _).mono ?_
          rintro e v1 ⟨rfl, rfl⟩
          go_wp2_with fail
          refine hK.out _ _ (fun _ h => h) ?_
          clear hK K
          try simp only [Act.put, List.setIfInBounds_toArray, List.set_cons_zero, List.set_cons_succ]
          refine lt_val (v := ?_) 29 (some 74) rfl (by kernel_rfl) (by kernel_rfl) (by kernel_rfl) (fun _ _ _ h => h) rfl rfl (fun w => ?_) ?_
          rotate_left
          · (go_simp; try with_reducible rfl)
          try simp only [Act.put, List.setIfInBounds_toArray, List.set_cons_zero, List.set_cons_succ]
          refine lt_val (v := ?_) 30 (some 104) rfl (by kernel_rfl) (by kernel_rfl) (by kernel_rfl) (fun _ _ _ h => h) rfl rfl (fun w => ?_) ?_
          rotate_left
          · (go_simp; try with_reducible rfl)
          try simp only [Act.put, List.setIfInBounds_toArray, List.set_cons_zero, List.set_cons_succ]
          refine lt_val (v := ?_) 31 (some 105) rfl (by kernel_rfl) (by kernel_rfl) (by kernel_rfl) (fun _ _ _ h => h) rfl rfl (fun w => ?_) ?_
          rotate_left
          · (go_simp; try with_reducible rfl)
          try simp only [Act.put, List.setIfInBounds_toArray, List.set_cons_zero, List.set_cons_succ]
          refine lt_val (v := ?_) 32 (some 106) rfl (by kernel_rfl) (by kernel_rfl) (by kernel_rfl) (fun _ _ _ h => h) rfl rfl (fun w => ?_) ?_
          rotate_left
          · (go_simp; try with_reducible rfl)
          try simp only [Act.put, List.setIfInBounds_toArray, List.set_cons_zero, List.set_cons_succ]
          refine lt_val (v := ?_) 33 (some 107) rfl (by kernel_rfl) (by kernel_rfl) (by kernel_rfl) (fun _ _ _ h => h) rfl rfl (fun w => ?_) ?_
          rotate_left
          · (go_simp; try with_reducible rfl)
          try simp only [Act.put, List.setIfInBounds_toArray, List.set_cons_zero, List.set_cons_succ]
          refine lt_val (v := ?_) 35 (some 109) rfl (by kernel_rfl) (by kernel_rfl) (by kernel_rfl) (fun _ _ _ h => h) rfl rfl (fun w => ?_) ?_
          rotate_left
          · (go_simp; try with_reducible rfl)
          try simp only [Act.put, List.setIfInBounds_toArray, List.set_cons_zero, List.set_cons_succ]
          refine lt_one 36 rfl (by kernel_rfl) rfl (fun K hK => ?_)
          have cx := (bk0.cell i).trans (tC_get 16 _ i HN.out.1.1)
          have fx := bk0.frozen i
          have bk1 := (bk0.setCell i (.int .u32 (q5 (X i) (X j) (X k) (X l) : Nat))).to (tC_set 16 _ i (q5 (X i) (X j) (X k) (X l)))
          have ck1 := ck0.setIn (k := g) (by simp) i (.int .u32 (q5 (X i) (X j) (X k) (X l) : Nat))
          go_simp
          refine hK.out _ _ (fun h => absurd h (by decide)) ?_
          clear cx fx bk0 ck0
          obtain ⟨z1, hz⟩ : ∃ z, z = (v1.setCell ⟨g, i, none⟩ (.int .u32 (q5 (X i) (X j) (X k) (X l) : Nat)) : World) := ⟨_, rfl⟩
          rw [← hz] at bk1 ck1 ⊢
          clear hz
          clear hK K
          try simp only [Act.put, List.setIfInBounds_toArray, List.set_cons_zero, List.set_cons_succ]
          refine lt_val (v := ?_) 38 (some 111) rfl (by kernel_rfl) (by kernel_rfl) (by kernel_rfl) (fun _ _ _ h => h) rfl rfl (fun w => ?_) ?_
          rotate_left
          · (go_simp; try with_reducible rfl)
          try simp only [Act.put, List.setIfInBounds_toArray, List.set_cons_zero, List.set_cons_succ]
          refine lt_one 39 rfl (by kernel_rfl) rfl (fun K hK => ?_)
          have cx := (bk1.cell j).trans (tC_get 16 _ j HN.out.1.2.1)
          have fx := bk1.frozen j
          have bk2 := (bk1.setCell j (.int .u32 (q8 (X i) (X j) (X k) (X l) : Nat))).to (tC_set 16 _ j (q8 (X i) (X j) (X k) (X l)))
          have ck2 := ck1.setIn (k := g) (by simp) j (.int .u32 (q8 (X i) (X j) (X k) (X l) : Nat))
          go_simp
          refine hK.out _ _ (fun h => absurd h (by decide)) ?_
          clear cx fx bk1 ck1
          obtain ⟨z2, hz⟩ : ∃ z, z = (z1.setCell ⟨g, j, none⟩ (.int .u32 (q8 (X i) (X j) (X k) (X l) : Nat)) : World) := ⟨_, rfl⟩
          rw [← hz] at bk2 ck2 ⊢
          clear hz
          clear hK K
          try simp only [Act.put, List.setIfInBounds_toArray, List.set_cons_zero, List.set_cons_succ]
          refine lt_val (v := ?_) 41 (some 113) rfl (by kernel_rfl) (by kernel_rfl) (by kernel_rfl) (fun _ _ _ h => h) rfl rfl (fun w => ?_) ?_
          rotate_left
          · (go_simp; try with_reducible rfl)
          try simp only [Act.put, List.setIfInBounds_toArray, List.set_cons_zero, List.set_cons_succ]
          refine lt_one 42 rfl (by kernel_rfl) rfl (fun K hK => ?_)
          have cx := (bk2.cell k).trans (tC_get 16 _ k HN.out.1.2.2.1)
          have fx := bk2.frozen k
          have bk3 := (bk2.setCell k (.int .u32 (q7 (X i) (X j) (X k) (X l) : Nat))).to (tC_set 16 _ k (q7 (X i) (X j) (X k) (X l)))
          have ck3 := ck2.setIn (k := g) (by simp) k (.int .u32 (q7 (X i) (X j) (X k) (X l) : Nat))
          go_simp
          refine hK.out _ _ (fun h => absurd h (by decide)) ?_
          clear cx fx bk2 ck2
          obtain ⟨z3, hz⟩ : ∃ z, z = (z2.setCell ⟨g, k, none⟩ (.int .u32 (q7 (X i) (X j) (X k) (X l) : Nat)) : World) := ⟨_, rfl⟩
          rw [← hz] at bk3 ck3 ⊢
          clear hz
          clear hK K
          try simp only [Act.put, List.setIfInBounds_toArray, List.set_cons_zero, List.set_cons_succ]
          refine lt_val (v := ?_) 44 (some 115) rfl (by kernel_rfl) (by kernel_rfl) (by kernel_rfl) (fun _ _ _ h => h) rfl rfl (fun w => ?_) ?_
          rotate_left
          · (go_simp; try with_reducible rfl)
          try simp only [Act.put, List.setIfInBounds_toArray, List.set_cons_zero, List.set_cons_succ]
          refine lt_one 45 rfl (by kernel_rfl) rfl (fun K hK => ?_)
          have cx := (bk3.cell l).trans (tC_get 16 _ l HN.out.1.2.2.2)
          have fx := bk3.frozen l
          have bk4 := (bk3.setCell l (.int .u32 (q6 (X i) (X j) (X k) (X l) : Nat))).to (tC_set 16 _ l (q6 (X i) (X j) (X k) (X l)))
          have ck4 := ck3.setIn (k := g) (by simp) l (.int .u32 (q6 (X i) (X j) (X k) (X l) : Nat))
          go_simp
          refine hK.out _ _ (fun h => absurd h (by decide)) ?_
          clear cx fx bk3 ck3
          obtain ⟨z4, hz⟩ : ∃ z, z = (z3.setCell ⟨g, l, none⟩ (.int .u32 (q6 (X i) (X j) (X k) (X l) : Nat)) : World) := ⟨_, rfl⟩
          rw [← hz] at bk4 ck4 ⊢
          clear hz
          clear hK K
          try simp only [Act.put, List.setIfInBounds_toArray, List.set_cons_zero, List.set_cons_succ]
          refine lt_done (by kernel_rfl) ?_ _
          rw [show up (up (up (up X i (q5 (X i) (X j) (X k) (X l))) j (q8 (X i) (X j) (X k) (X l))) k (q7 (X i) (X j) (X k) (X l))) l (q6 (X i) (X j) (X k) (X l)) = qat X i j k l from rfl, ← hN.out] at bk4
          go_wp2_with fail
          exact ⟨⟨_, _, _, _, _, _, _, _, _, _, _, _, _, _, _, _, _, _, _, _, _, _, _, _, _, _, _, _, _, _, _, _, _, _, _, _, _, _, _, _, _, _, _, _, _, _, _, _, _, _, _, _, _, _, _, _, _, _, _, _, _, _, ⟨i + 1, HQ.out.1, by go_num, bk4, ck4⟩, rfl⟩, by have := HQ.out.2; simpa [intOf] using this⟩
        · obtain rfl : i = 4 := by omega
          go_wp2_with fail
          go_end0
          exact ⟨rfl, b0, c0⟩
end Go.Proofs.Ytnopkojpgemldaa
