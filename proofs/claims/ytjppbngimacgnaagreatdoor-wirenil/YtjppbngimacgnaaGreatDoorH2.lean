/- spread: the eighty words of a block. -/
import Derived.Test.YtjppbngimacgnaaGreatDoorH1
import Derived.Test.YtjppbngimacgnaaGreatDoorBsI
set_option linter.unusedVariables false
set_option linter.unusedSimpArgs false
set_option linter.unnecessarySimpa false
namespace Go.Proofs.YtjppbngimacgnaaGreatDoor
open Go.RowKit

theorem W80Info : (Tryz.prog.info? 165).map (·.size) = some 80 := by kernel_rfl
/-- The first i words are those of the block, the others 0. -/
def swt (b : Nat → Nat) (i : Nat) : Nat → Nat := fun j => if j < i then sw b j else 0
theorem swt_zero (b : Nat → Nat) : vC 80 (swt b 0) = vC 80 fun _ => 0 := vC_eq fun j _ => if_neg (by omega)
theorem swt_all (b : Nat → Nat) : vC 80 (swt b 80) = vC 80 (sw b) := vC_eq fun j hj => if_pos hj
theorem swt_at (b : Nat → Nat) (i j : Nat) (h : j < i) : swt b i j = sw b j := if_pos h
theorem swt_step (b : Nat → Nat) (i : Nat) : up (swt b i) i (sw b i) = swt b (i + 1) := by
  funext j
  unfold up swt
  by_cases h : j = i
  · subst h; rw [if_pos rfl, if_pos (by omega)]
  · rw [if_neg h]
    by_cases h2 : j < i
    · rw [if_pos h2, if_pos (by omega)]
    · rw [if_neg h2, if_neg (by omega)]

set_option maxHeartbeats 4000000 in
set_option maxRecDepth 100000 in
theorem spread_s (z g o c : Nat) (b : Nat → Nat) (w : World) (hc : 128 ≤ c) (hc2 : c ≤ 9223372036854775807) (hb : Bs w g o 128 b) (hz : Blk w z (vC 80 fun _ => 0) 165) (hne : g ≠ z) :
    Calls Tryz.prog 86 #[.pointer (some ⟨z, 0, none⟩), .slice (some ⟨g, o, none⟩) 128 c] w fun e w' => e = .returned (.tuple #[]) ∧ Blk w' z (vC 80 (sw b)) 165 ∧ Chg w w' [z] := by
  rw [← swt_zero b] at hz
  go_enter Tryz.func86, Tryz.ntmps86
  go_wp2_with fail
  go_loopw [10] (fun t wr => ∃ i : Nat, i ≤ 16 ∧ t = .int .i64 (i : Int) ∧ Blk wr z (vC 80 (swt b i)) 165 ∧ Chg w wr [z]) (fun t _ => (16 - intOf t).toNat)
  case atStart => exact ⟨0, by omega, rfl, hz, Chg.refl w _⟩
  case round =>
    obtain ⟨i, hi, rfl, b0, c0⟩ := hrel
    by_cases h8 : i < 16
    · have hI : (i : Int) < 16 := by omega
      have hI2 : (i : Int) < 80 := by omega
      have hs : (8 : Int) * (i : Int) ≤ 128 := by omega
      have hs0 : (0 : Int) ≤ (8 : Int) * (i : Int) := by omega
      have hs1 : (128 : Int) ≤ (c : Int) := by omega
      have hw8 : IntKind.i64.wrap (8 * (i : Int)) = 8 * (i : Int) := by rw [IntKind.wrap_i64]; omega
      have hn8 : (8 * (i : Int)).toNat = 8 * i := by omega
      have B := (hb.chg c0 (by simpa using hne)).sub (8 * i) 8 (by omega)
      have hw : wd (fun j => b (8 * i + j)) = sw b i := (sw_lo b i h8).symm
      have cA := (b0.cell i).trans (vC_get 80 _ i (by omega))
      have fA := b0.frozen i
      go_wp2_with fail
      refine wp_region_held_drew (S := fun w' => Chg wr w' [z]) (by kernel_rfl) ((Chg.refl wr _).drew) (fun hHeld => ?_)
      refine take_val (v := ?_) 0 (some 13) rfl (by kernel_rfl) (by kernel_rfl) (by kernel_rfl) (fun _ _ _ h => h) rfl rfl (fun w hSw => ?_) hHeld ?_
      rotate_left
      · (go_simp; try with_reducible rfl)
      try simp only [Act.put, List.setIfInBounds_toArray, List.set_cons_zero, List.set_cons_succ]
      refine take_val (v := ?_) 1 (some 14) rfl (by kernel_rfl) (by kernel_rfl) (by kernel_rfl) (fun _ _ _ h => h) rfl rfl (fun w hSw => ?_) hHeld ?_
      rotate_left
      · (go_simp; try with_reducible rfl)
      try simp only [Act.put, List.setIfInBounds_toArray, List.set_cons_zero, List.set_cons_succ]
      refine take_val (v := ?_) 2 (some 15) rfl (by kernel_rfl) (by kernel_rfl) (by kernel_rfl) (fun _ _ _ h => h) rfl rfl (fun w hSw => ?_) hHeld ?_
      rotate_left
      · (go_simp; try with_reducible rfl)
      try simp only [Act.put, List.setIfInBounds_toArray, List.set_cons_zero, List.set_cons_succ]
      refine take_val (v := ?_) 3 (some 16) rfl (by kernel_rfl) (by kernel_rfl) (by kernel_rfl) (fun _ _ _ h => h) rfl rfl (fun w hSw => ?_) hHeld ?_
      rotate_left
      · (go_simp; try with_reducible rfl)
      try simp only [Act.put, List.setIfInBounds_toArray, List.set_cons_zero, List.set_cons_succ]
      refine take_val (v := ?_) 4 (some 17) rfl (by kernel_rfl) (by kernel_rfl) (by kernel_rfl) (fun _ _ _ h => h) rfl rfl (fun w hSw => ?_) hHeld ?_
      rotate_left
      · (go_simp; try with_reducible rfl)
      try simp only [Act.put, List.setIfInBounds_toArray, List.set_cons_zero, List.set_cons_succ]
      refine take_val (v := (.slice (some ⟨g, o + 8 * i, none⟩) (128 - 8 * i) (c - 8 * i))) 5 (some 18) rfl (by kernel_rfl) (by kernel_rfl) (by kernel_rfl) (fun _ _ _ h => h) rfl rfl (fun w hSw => ?_) hHeld ?_
      · (go_simp; omega)
      try simp only [Act.put, List.setIfInBounds_toArray, List.set_cons_zero, List.set_cons_succ]
      refine take_val (v := ?_) 7 (some 20) rfl (by kernel_rfl) (by kernel_rfl) (by kernel_rfl) (fun _ _ _ h => h) rfl rfl (fun w hSw => ?_) hHeld ?_
      rotate_left
      · (go_simp; try with_reducible rfl)
      try simp only [Act.put, List.setIfInBounds_toArray, List.set_cons_zero, List.set_cons_succ]
      refine wpAnyH_ready (rs := [6]) (by kernel_rfl) (by simp) ?_
      refine AllReadyH.cons (o := _) rfl (fun K hK => ?_) ?_
      ·
        go_simp
        refine (word_s g (o + 8 * i) (128 - 8 * i) (c - 8 * i) _ _ (by omega) B.bd (B.chg hHeld (by simpa using hne)).cell).mono ?_
        rintro e v1 ⟨rfl, m, rfl⟩
        rw [hw]
        go_wp2_with fail
        refine hK.out _ _ ((Chg.refl wr [z]).drewN (1 + m)) (fun hHeld => ?_)
        clear hK K
        try simp only [Act.put, List.setIfInBounds_toArray, List.set_cons_zero, List.set_cons_succ]
        refine take_val (v := ?_) 8 (some 21) rfl (by kernel_rfl) (by kernel_rfl) (by kernel_rfl) (fun _ _ _ h => h) rfl rfl (fun w hSw => ?_) hHeld ?_
        rotate_left
        · (go_simp; try with_reducible rfl)
        try simp only [Act.put, List.setIfInBounds_toArray, List.set_cons_zero, List.set_cons_succ]
        refine wpAnyH_ready (rs := [9]) (by kernel_rfl) (by simp) ?_
        refine AllReadyH.cons (o := _) rfl (fun K hK => ?_) ?_
        ·
          have bk := b0.drewN (1 + m)
          have ck := bk.cell i
          have fk := bk.frozen i
          rw [vC_get 80 _ i (by omega)] at ck
          rw [if_pos (by rfl)]
          go_simp
          refine hK.out _ _ (hHeld.setIn (by simp) _ _) (fun hHeld => ?_)
          clear hK K
          try simp only [Act.put, List.setIfInBounds_toArray, List.set_cons_zero, List.set_cons_succ]
          refine wpAnyH_done (by kernel_rfl) ?_ _
          have c1 := c0.trans1 hHeld
          have b1 := (bk.setCell i (.int .u64 ((sw b i : Nat) : Int))).to (by rw [vC_set, swt_step])
          go_wp2_with fail
          exact ⟨⟨i + 1, by omega, by go_num, b1, c1⟩, by simp [intOf]; omega⟩
        exact AllReadyH.nil
      exact AllReadyH.nil
    · have h9 : i = 16 := by omega
      subst h9
      go_wp2_with fail
      go_loopw [5] (fun t wr => ∃ i : Nat, 16 ≤ i ∧ i ≤ 80 ∧ t = .int .i64 (i : Int) ∧ Blk wr z (vC 80 (swt b i)) 165 ∧ Chg w wr [z]) (fun t _ => (80 - intOf t).toNat)
      case atStart => exact ⟨16, by omega, by omega, rfl, b0, c0⟩
      case round =>
        clear b0 c0 hi
        obtain ⟨i, hj, hi, rfl, b0, c0⟩ := hrel
        by_cases h8 : i < 80
        · have hI : (i : Int) < 80 := by omega
          have L16 := swt_at b i (i - 16) (by omega)
          have L15 := swt_at b i (i - 15) (by omega)
          have L7 := swt_at b i (i - 7) (by omega)
          have L2 := swt_at b i (i - 2) (by omega)
          obtain ⟨x16, hx16⟩ : ∃ x, sw b (i - 16) = x := ⟨_, rfl⟩
          obtain ⟨x15, hx15⟩ : ∃ x, sw b (i - 15) = x := ⟨_, rfl⟩
          obtain ⟨x7, hx7⟩ : ∃ x, sw b (i - 7) = x := ⟨_, rfl⟩
          obtain ⟨x2, hx2⟩ : ∃ x, sw b (i - 2) = x := ⟨_, rfl⟩
          have l16 : U x16 := hx16 ▸ sw_lt hb.bd (i - 16)
          have l15 : U x15 := hx15 ▸ sw_lt hb.bd (i - 15)
          have l7 : U x7 := hx7 ▸ sw_lt hb.bd (i - 7)
          have l2 : U x2 := hx2 ▸ sw_lt hb.bd (i - 2)
          have HV : Hid (sw b i = (x16 + sg0 x15 + x7 + sg1 x2) % 18446744073709551616) := by show sw b i = _; rw [sw_hi b i (by omega), hx16, hx15, hx7, hx2]
          have e16 : (i : Int) - 16 = ((i - 16 : Nat) : Int) := by omega
          have e15 : (i : Int) - 15 = ((i - 15 : Nat) : Int) := by omega
          have e7 : (i : Int) - 7 = ((i - 7 : Nat) : Int) := by omega
          have e2 : (i : Int) - 2 = ((i - 2 : Nat) : Int) := by omega
          have c16 := (b0.cell (i - 16)).trans ((vC_get 80 _ (i - 16) (by omega)).trans (by rw [L16, hx16]))
          have c15 := (b0.cell (i - 15)).trans ((vC_get 80 _ (i - 15) (by omega)).trans (by rw [L15, hx15]))
          have c7 := (b0.cell (i - 7)).trans ((vC_get 80 _ (i - 7) (by omega)).trans (by rw [L7, hx7]))
          have c2 := (b0.cell (i - 2)).trans ((vC_get 80 _ (i - 2) (by omega)).trans (by rw [L2, hx2]))
          have ck := (b0.cell i).trans (vC_get 80 _ i (by omega))
          have fk := b0.frozen i
          clear L16 L15 L7 L2 hx16 hx15 hx7 hx2
          obtain ⟨j16, hj16⟩ : ∃ x, i - 16 = x := ⟨_, rfl⟩
          obtain ⟨j15, hj15⟩ : ∃ x, i - 15 = x := ⟨_, rfl⟩
          obtain ⟨j7, hj7⟩ : ∃ x, i - 7 = x := ⟨_, rfl⟩
          obtain ⟨j2, hj2⟩ : ∃ x, i - 2 = x := ⟨_, rfl⟩
          rw [hj16] at c16 e16; rw [hj15] at c15 e15; rw [hj7] at c7 e7; rw [hj2] at c2 e2
          have b16 : (j16 : Int) < 80 := by omega
          have b15 : (j15 : Int) < 80 := by omega
          have b7 : (j7 : Int) < 80 := by omega
          have b2 : (j2 : Int) < 80 := by omega
          clear hj16 hj15 hj7 hj2
          have r1 := rr_lt 1 l15; have r8 := rr_lt 8 l15; have r19 := rr_lt 19 l2; have r61 := rr_lt 61 l2
          have s7 : (x15 : Int) / (128 : Int) = ((x15 >>> 7 : Nat) : Int) := by rw [Nat.shiftRight_eq_div_pow]; omega
          have s6 : (x2 : Int) / (64 : Int) = ((x2 >>> 6 : Nat) : Int) := by rw [Nat.shiftRight_eq_div_pow]; omega
          have q7 := shr_lt 7 l15; have q6 := shr_lt 6 l2
          have o1 : bits .xor .u64 ((rr 1 x15 : Nat) : Int) ((rr 8 x15 : Nat) : Int) = ((rr 1 x15 ^^^ rr 8 x15 : Nat) : Int) := u64_xor_nat _ _ r1 r8
          have o2 : bits .xor .u64 ((rr 1 x15 ^^^ rr 8 x15 : Nat) : Int) ((x15 : Int) / 128) = ((sg0 x15 : Nat) : Int) := by rw [s7]; exact u64_xor_nat _ _ (xor_lt r1 r8) q7
          have o3 : bits .xor .u64 ((rr 19 x2 : Nat) : Int) ((rr 61 x2 : Nat) : Int) = ((rr 19 x2 ^^^ rr 61 x2 : Nat) : Int) := u64_xor_nat _ _ r19 r61
          have o4 : bits .xor .u64 ((rr 19 x2 ^^^ rr 61 x2 : Nat) : Int) ((x2 : Int) / 64) = ((sg1 x2 : Nat) : Int) := by rw [s6]; exact u64_xor_nat _ _ (xor_lt r19 r61) q6
          have k0 := sg0_lt l15; have k1 := sg1_lt l2
          clear s7 s6 q7 q6 r1 r8 r19 r61
          obtain ⟨g0, hg0⟩ : ∃ x, sg0 x15 = x := ⟨_, rfl⟩
          obtain ⟨g1, hg1⟩ : ∃ x, sg1 x2 = x := ⟨_, rfl⟩
          rw [hg0] at o2 k0 HV; rw [hg1] at o4 k1 HV
          obtain ⟨y1, hy1⟩ : ∃ x, (x16 + g0) % 18446744073709551616 = x := ⟨_, rfl⟩
          obtain ⟨y2, hy2⟩ : ∃ x, (y1 + x7) % 18446744073709551616 = x := ⟨_, rfl⟩
          obtain ⟨y3, hy3⟩ : ∃ x, sw b i = x := ⟨_, rfl⟩
          have a1 : IntKind.u64.wrap ((x16 : Int) + (g0 : Int)) = (y1 : Int) := by rw [IntKind.wrap_u64]; omega
          have a2 : IntKind.u64.wrap ((y1 : Int) + (x7 : Int)) = (y2 : Int) := by rw [IntKind.wrap_u64]; omega
          have a3 : IntKind.u64.wrap ((y2 : Int) + (g1 : Int)) = (y3 : Int) := by have h := HV.out; rw [IntKind.wrap_u64]; omega
          have b1 := (b0.setCell i (.int .u64 (y3 : Int))).to (by rw [vC_set, ← hy3, swt_step])
          have HY : Hid (sw b i = y3) := hy3
          clear hy1 hy2 hy3 hg0 hg1 HV l16 l7 k0 k1
          go_wp2_with fail
          go_region
          go_wp2_with fail
          refine (ror_1 x15 l15 _).mono ?_
          rintro e v1 ⟨rfl, rfl⟩
          go_wp2_with fail
          refine (ror_8 x15 l15 _).mono ?_
          rintro e v1 ⟨rfl, rfl⟩
          go_wp2_with fail
          refine (ror_19 x2 l2 _).mono ?_
          rintro e v1 ⟨rfl, rfl⟩
          go_wp2_with fail
          refine (ror_61 x2 l2 _).mono ?_
          rintro e v1 ⟨rfl, rfl⟩
          go_wp2_with fail
          go_region
          go_wp2_with fail
          refine ⟨⟨_, _, _, _, _, _, _, _, _, _, _, _, _, _, _, _, _, _, _, _, _, _, _, _, _, _, _, _, _, _, _, _, _, _, _, _, _, _, _, _, _, _, _, _, _, _, _, _, _, _, _, _, _, _, _, _, _, _, ⟨i + 1, by omega, by omega, by go_num, b1.drew.drew, ((c0.setIn (by simp) _ _).drew).drew⟩, rfl⟩, by simp [intOf]; omega⟩
        · have h9 : i = 80 := by omega
          subst h9
          rw [swt_all] at b0
          go_wp2_with fail
          go_end0
          exact ⟨rfl, b0, c0⟩
end Go.Proofs.YtjppbngimacgnaaGreatDoor
