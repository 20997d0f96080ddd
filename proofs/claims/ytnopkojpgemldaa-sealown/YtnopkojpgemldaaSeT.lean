/- seal: residue.mul. -/
import Derived.Test.YtnopkojpgemldaaSeS
set_option linter.unusedVariables false
set_option linter.unusedSimpArgs false
set_option linter.unnecessarySimpa false
namespace Go.Proofs.Ytnopkojpgemldaa
open Go.RowKit

theorem ps_step (a b : Nat → Nat) (i j : Nat) (hj : j < 5) : up (ps a b (5 * i + j)) (i + j) (ps a b (5 * i + j) (i + j) + a i * b j) = ps a b (5 * i + (j + 1)) := by
  rw [← Nat.add_assoc, ps, show (5 * i + j) / 5 = i by omega, show (5 * i + j) % 5 = j by omega]
theorem mu_vec (a b : Nat → Nat) : vC 5 (up (up (up (ch (ff a b)) 0 (ch (ff a b) 0 + 5 * co (ff a b) 5)) 1 (ch (ff a b) 1 + (ch (ff a b) 0 + 5 * co (ff a b) 5) / 67108864)) 0 ((ch (ff a b) 0 + 5 * co (ff a b) 5) % 67108864)) = vC 5 (mu a b) := vC_eq fun i hi => by
  unfold up mu
  by_cases h0 : i = 0
  · simp [h0]
  · by_cases h1 : i = 1
    · simp [h1]
    · simp [h0, h1]
set_option maxHeartbeats 8000000 in
set_option maxRecDepth 100000 in
theorem mul_s (g : Nat) (h r : Nat → Nat) (post : Array Value) (T : TypeId) (hT : ¬ T = 198) (hh : ∀ i, i < 5 → h i < 268435456) (hr : ∀ i, i < 5 → r i < 67108864) (w : World) (hb : Blk w g (vC 5 h ++ (vC 5 r ++ post)) T) :
    Calls Try.prog 69 #[.pointer (some ⟨g, 0, none⟩), .pointer (some ⟨g, 5, none⟩)] w fun e w' => e = .returned (.tuple #[]) ∧ Blk w' g (vC 5 (mu h r) ++ (vC 5 r ++ post)) T ∧ Chg w w' [g] := by
  have HP : Hid (∀ n, n ≤ 25 → ∀ k, ps h r n k ≤ n * 18014398509481984) := ps_lt hh hr
  have HH : Hid ((∀ i, i < 5 → h i < 268435456) ∧ (∀ i, i < 5 → r i < 67108864)) := ⟨hh, hr⟩
  have HG : Hid (g < w.heap.size) := hb.lt
  clear hh hr
  go_enter Try.func69, Try.ntmps69
  go_wp2_with (with_reducible refine alloc_w rfl 198 rfl (.agg (vC 9 (fun _ => 0))) zeroW9 (vC 9 (fun _ => 0)) rfl ?_; intro sb w1 hsb BS k1)
  have hb1 := hb.chg k1 (by simp)
  have HS : Hid (¬ g = sb ∧ w.heap.size ≤ sb) := ⟨by have := HG.out; omega, hsb⟩
  clear hb hsb
  go_loopw [9] (fun t wr => ∃ i : Nat, i ≤ 5 ∧ t = .int .i64 (i : Int) ∧ Blk wr sb (vC 9 (ps h r (5 * i))) 198 ∧ Chg w1 wr [sb]) (fun t _ => (5 - intOf t).toNat)
  case atStart => exact ⟨0, by omega, rfl, BS, Chg.refl _ _⟩
  case round =>
    clear BS
    obtain ⟨i, hi, rfl, b0, c0⟩ := hrel
    by_cases h8 : i < 5
    · have hI : (i : Int) < 5 := by omega
      have e1 : IntKind.i64.wrap ((i : Int) + 1) = (i : Int) + 1 := by rw [IntKind.wrap_i64]; omega
      obtain ⟨wo, rfl⟩ : ∃ z, z = wr := ⟨wr, rfl⟩
      go_wp2_with fail
      go_loopw [12] (fun t wr => ∃ j : Nat, j ≤ 5 ∧ t = .int .i64 (j : Int) ∧ Blk wr sb (vC 9 (ps h r (5 * i + j))) 198 ∧ Chg w1 wr [sb]) (fun t _ => (5 - intOf t).toNat)
      case atStart => exact ⟨0, by omega, rfl, b0, c0⟩
      case round =>
        clear b0 c0
        obtain ⟨j, hj, rfl, b0, c0⟩ := hrel
        by_cases h9 : j < 5
        · have hJ : (j : Int) < 5 := by omega
          have e2 : IntKind.i64.wrap ((j : Int) + 1) = (j : Int) + 1 := by rw [IntKind.wrap_i64]; omega
          have HST := ps_step h r i j h9
          have hbw := hb1.chg c0 (by have := HS.out; simpa using this.1)
          have c1 := (b0.cell (i + j)).trans (vC_get 9 _ (i + j) (by omega))
          have f1 := b0.frozen (i + j)
          have c2 := (hbw.cell i).trans (vp_get 5 _ _ i h8)
          have c3 := (hbw.cell (5 + j)).trans (vp_get2 5 5 _ _ _ j h9)
          have q1 := HP.out (5 * i + j) (by omega) (i + j)
          have q2 := HH.out.1 i h8
          have q3 := HH.out.2 j h9
          obtain ⟨A, hA⟩ : ∃ A, h i = A := ⟨_, rfl⟩
          obtain ⟨D, hD⟩ : ∃ D, r j = D := ⟨_, rfl⟩
          obtain ⟨Y, hY⟩ : ∃ Y, ps h r (5 * i + j) (i + j) = Y := ⟨_, rfl⟩
          obtain ⟨M, hM⟩ : ∃ M, A * D = M := ⟨_, rfl⟩
          obtain ⟨X, hX⟩ : ∃ X, Y + M = X := ⟨_, rfl⟩
          obtain ⟨k, hk⟩ : ∃ k, i + j = k := ⟨_, rfl⟩
          rw [hA] at c2 q2; rw [hD] at c3 q3; rw [hY] at c1 q1
          rw [hA, hD, hY, hM, hX, hk] at HST
          rw [hk] at c1 f1
          have qM : M ≤ 268435456 * 67108864 := by rw [← hM]; exact Nat.mul_le_mul (by omega) (by omega)
          have eM0 : (A : Int) * (D : Int) = (M : Int) := by rw [← hM]; exact (Int.natCast_mul A D).symm
          have eM : IntKind.u64.wrap ((A : Int) * (D : Int)) = (M : Int) := by rw [eM0, IntKind.wrap_u64]; omega
          have hij : 5 * i + j ≤ 25 := by omega
          have q1' : Y ≤ 25 * 18014398509481984 := Nat.le_trans q1 (Nat.mul_le_mul_right _ hij)
          have eX : IntKind.u64.wrap ((Y : Int) + (M : Int)) = (X : Int) := by rw [IntKind.wrap_u64]; omega
          have ek : IntKind.i64.wrap ((i : Int) + (j : Int)) = (k : Int) := by rw [IntKind.wrap_i64]; omega
          have kb : (k : Int) < 9 := by omega
          have b2 := (b0.setCell k (.int .u64 (X : Nat))).to ((vC_set 9 _ k X).trans (by rw [HST]))
          have d2 := c0.setIn (k := sb) (by simp) k (.int .u64 (X : Nat))
          have HF : Hid (Blk (wr.setCell ⟨sb, k, none⟩ (.int .u64 (X : Nat))) sb (vC 9 (ps h r (5 * i + (j + 1)))) 198 ∧ Chg w1 (wr.setCell ⟨sb, k, none⟩ (.int .u64 (X : Nat))) [sb]) := ⟨b2, d2⟩
          have HJ : Hid (j + 1 ≤ 5 ∧ (5 - ((j : Int) + 1)).toNat < (5 - (j : Int)).toNat) := ⟨by omega, by omega⟩
          clear hA hD hY hM hX hk HST q1 q2 q3 qM q1' eM0 hbw b2 d2 hij b0 c0
          go_wp2_with fail
          go_region
          go_wp2_with fail
          exact ⟨⟨j + 1, HJ.out.1, by go_num, HF.out.1.drew, HF.out.2.drew⟩, HJ.out.2⟩
        · obtain rfl : j = 5 := by omega
          go_wp2_with fail
          exact ⟨⟨i + 1, by omega, by go_num, b0, c0⟩, by simp [intOf]; omega⟩
    · obtain rfl : i = 5 := by omega
      obtain ⟨P, hP⟩ : ∃ P, ps h r 25 = P := ⟨_, rfl⟩
      have b25 : Blk wr sb (vC 9 (fo P 0)) 198 := b0.to (by rw [← hP]; rfl)
      have HPL : Hid (∀ k, P k ≤ 25 * 18014398509481984) := fun k => by rw [← hP]; exact HP.out 25 (by omega) k
      have HFF : Hid (ff h r = fo P 4) := by show ff h r = fo P 4; rw [← hP]; rfl
      clear hP b0 hi h8 HP
      obtain ⟨wo, rfl⟩ : ∃ z, z = wr := ⟨wr, rfl⟩
      go_wp2_with fail
      go_loopw [35] (fun t wr => ∃ i : Nat, i ≤ 4 ∧ t = .int .i64 (i : Int) ∧ Blk wr sb (vC 9 (fo P i)) 198 ∧ Chg w1 wr [sb]) (fun t _ => (4 - intOf t).toNat)
      case atStart => exact ⟨0, by omega, rfl, b25, c0⟩
      case round =>
        clear b25 c0
        obtain ⟨i, hi, rfl, b0, c0⟩ := hrel
        by_cases h8 : i < 4
        · have hI : (i : Int) < 4 := by omega
          have e1 : IntKind.i64.wrap ((i : Int) + 1) = (i : Int) + 1 := by rw [IntKind.wrap_i64]; omega
          have HST := fo_up P i
          have a1 : fo P i i = P i := by unfold fo; rw [if_neg (by omega)]
          have a2 : fo P i (5 + i) = P (5 + i) := by unfold fo; rw [if_neg (by omega)]
          have c1 := (b0.cell i).trans (vC_get 9 _ i (by omega))
          have f1 := b0.frozen i
          have c2 := (b0.cell (5 + i)).trans (vC_get 9 _ (5 + i) (by omega))
          rw [a1] at c1; rw [a2] at c2
          have q1 := HPL.out i
          have q2 := HPL.out (5 + i)
          obtain ⟨A, hA⟩ : ∃ A, P i = A := ⟨_, rfl⟩
          obtain ⟨D, hD⟩ : ∃ D, P (5 + i) = D := ⟨_, rfl⟩
          obtain ⟨M, hM⟩ : ∃ M, 5 * D = M := ⟨_, rfl⟩
          obtain ⟨X, hX⟩ : ∃ X, A + M = X := ⟨_, rfl⟩
          obtain ⟨k, hk⟩ : ∃ k, 5 + i = k := ⟨_, rfl⟩
          rw [hA] at c1 q1; rw [hD] at c2 q2
          rw [hA, hD, hM, hX] at HST
          rw [hk] at c2
          have eM : IntKind.u64.wrap (5 * (D : Int)) = (M : Int) := by rw [IntKind.wrap_u64]; omega
          have eX : IntKind.u64.wrap ((A : Int) + (M : Int)) = (X : Int) := by rw [IntKind.wrap_u64]; omega
          have ek : IntKind.i64.wrap (5 + (i : Int)) = (k : Int) := by rw [IntKind.wrap_i64]; omega
          have kb : (k : Int) < 9 := by omega
          have hI9 : (i : Int) < 9 := by omega
          have b2 := (b0.setCell i (.int .u64 (X : Nat))).to ((vC_set 9 _ i X).trans (by rw [HST]))
          have d2 := c0.setIn (k := sb) (by simp) i (.int .u64 (X : Nat))
          have HF : Hid (Blk (wr.setCell ⟨sb, i, none⟩ (.int .u64 (X : Nat))) sb (vC 9 (fo P (i + 1))) 198 ∧ Chg w1 (wr.setCell ⟨sb, i, none⟩ (.int .u64 (X : Nat))) [sb]) := ⟨b2, d2⟩
          have HJ : Hid (i + 1 ≤ 4 ∧ (4 - ((i : Int) + 1)).toNat < (4 - (i : Int)).toNat) := ⟨by omega, by omega⟩
          clear hA hD hM hX hk HST q1 q2 b2 d2 b0 c0 a1 a2
          go_wp2_with fail
          go_region
          go_wp2_with fail
          exact ⟨⟨i + 1, HJ.out.1, by go_num, HF.out.1.drew, HF.out.2.drew⟩, HJ.out.2⟩
        · obtain rfl : i = 4 := by omega
          rw [← HFF.out] at b0
          have BH := hb1.chg c0 (by have := HS.out; simpa using this.1)
          have K : Chg w wr [g] := (k1.wide (l := [g])).trans c0 (by intro x hx; simp at hx; subst hx; exact Or.inr HS.out.2)
          have HB5 : Hid (∀ i, i < 5 → ff h r i < 9223372036854775808) := fun i _ => by have := ff_lt HH.out.1 HH.out.2 i; omega
          have HC5 : Hid (co (ff h r) 5 ≤ 40265322497) := co5_lt HH.out.1 HH.out.2
          have HV := mu_vec h r
          have HL0 := ch_lt (ff h r) 0
          have HL1 := ch_lt (ff h r) 1
          obtain ⟨F, hF⟩ : ∃ F, ff h r = F := ⟨_, rfl⟩
          rw [hF] at HB5 HC5 HV HL0 HL1 b0
          clear hb1 c0 k1 hF HFF HPL
          go_wp2_with fail
          have BH0 := BH.drew
          have b00 := b0.drew
          have K0 := K.drew
          refine lt_begin (fun w' => True) (fun n => false) (by kernel_rfl) ?_
          obtain ⟨z0, hz⟩ : ∃ z, z = wr.drew := ⟨_, rfl⟩
          rw [← hz] at BH0 b00 K0 ⊢
          clear hz BH b0 K
          refine lt_val (v := ?_) 0 (some 49) rfl (by kernel_rfl) (by kernel_rfl) (by kernel_rfl) (fun _ _ _ h => h) rfl rfl (fun w => ?_) ?_
          rotate_left
          · (go_simp; try with_reducible rfl)
          try simp only [Act.put, List.setIfInBounds_toArray, List.set_cons_zero, List.set_cons_succ]
          refine lt_val (v := ?_) 1 (some 50) rfl (by kernel_rfl) (by kernel_rfl) (by kernel_rfl) (fun _ _ _ h => h) rfl rfl (fun w => ?_) ?_
          rotate_left
          · (go_simp; try with_reducible rfl)
          try simp only [Act.put, List.setIfInBounds_toArray, List.set_cons_zero, List.set_cons_succ]
          refine lt_val (v := (.slice (some ⟨g, 0, none⟩) 5 5)) 2 (some 51) rfl (by kernel_rfl) (by kernel_rfl) (by kernel_rfl) (fun _ _ _ h => h) rfl rfl (fun w => ?_) ?_
          · (go_simp; try with_reducible rfl)
          try simp only [Act.put, List.setIfInBounds_toArray, List.set_cons_zero, List.set_cons_succ]
          refine lt_val (v := (.slice (some ⟨sb, 0, none⟩) 5 9)) 3 (some 52) rfl (by kernel_rfl) (by kernel_rfl) (by kernel_rfl) (fun _ _ _ h => h) rfl rfl (fun w => ?_) ?_
          · (go_simp; try with_reducible rfl)
          try simp only [Act.put, List.setIfInBounds_toArray, List.set_cons_zero, List.set_cons_succ]
          refine lt_one 4 rfl (by kernel_rfl) rfl (fun K hK => ?_)
          refine copy_vo (.tmp 51) (.tmp 52) 199 199 rfl 47 Try.underlying199 u64Info g 5 5 sb 9 rfl rfl h F _ T BH0 (fun j hj => by rw [b00.cell, vC_get 9 _ j (by omega)]) ?_
          intro w2 B2 k2
          change K (Act.put _ (some 53) _) _
          refine hK.out _ _ (fun _ h => h) ?_
          clear hK K
          try simp only [Act.put, List.setIfInBounds_toArray, List.set_cons_zero, List.set_cons_succ]
          refine lt_done (by kernel_rfl) ?_ _
          have K2 := K0.trans1 k2
          clear BH0 b00 K0 k2
          go_wp2_with fail
          refine (carry_s g F _ T HB5.out w2 B2).mono ?_
          rintro e w3 ⟨rfl, B3, k3⟩
          have K3 := K2.trans1 k3
          clear B2 K2 k3
          obtain ⟨O, hO⟩ : ∃ O, co F 5 = O := ⟨_, rfl⟩
          obtain ⟨A, hA⟩ : ∃ A, ch F 0 = A := ⟨_, rfl⟩
          obtain ⟨D, hD⟩ : ∃ D, ch F 1 = D := ⟨_, rfl⟩
          rw [hO] at HC5 HV ⊢
          rw [hA] at HL0 HV
          rw [hD] at HL1 HV
          obtain ⟨M, hM⟩ : ∃ M, 5 * O = M := ⟨_, rfl⟩
          obtain ⟨X, hX⟩ : ∃ X, A + M = X := ⟨_, rfl⟩
          obtain ⟨Y, hY⟩ : ∃ Y, X / 67108864 = Y := ⟨_, rfl⟩
          obtain ⟨Z, hZ⟩ : ∃ Z, D + Y = Z := ⟨_, rfl⟩
          obtain ⟨E, hE⟩ : ∃ E, X % 67108864 = E := ⟨_, rfl⟩
          rw [hM, hX, hY, hZ, hE] at HV
          have hC := HC5.out
          have eM : IntKind.u64.wrap (5 * (O : Int)) = (M : Int) := by rw [IntKind.wrap_u64]; omega
          have eX : IntKind.u64.wrap ((A : Int) + (M : Int)) = (X : Int) := by rw [IntKind.wrap_u64]; omega
          have eY : (X : Int) / 67108864 = (Y : Int) := by omega
          have eZ : IntKind.u64.wrap ((D : Int) + (Y : Int)) = (Z : Int) := by rw [IntKind.wrap_u64]; omega
          have eE : bits .and .u64 (X : Int) 67108863 = (E : Int) := by rw [and26 X (by omega), hE]
          have c0 := (B3.cell 0).trans (vp_get 5 _ _ 0 (by omega))
          have f0 := B3.frozen 0
          rw [hA] at c0
          clear hM hX hY hZ hE hC hO HL0 HL1
          go_wp2_with fail
          go_region
          have B4 := ((B3.setCell 0 (.int .u64 (X : Nat))).to (vp_set 5 _ _ 0 X (by omega))).drew
          have K4 := (K3.setIn (k := g) (by simp) 0 (.int .u64 (X : Nat))).drew
          clear c0 f0 B3 K3
          obtain ⟨w4, hw⟩ : ∃ z, z = (w3.setCell ⟨g, 0, none⟩ (.int .u64 (X : Nat))).drew := ⟨_, rfl⟩
          rw [← hw] at B4 K4 ⊢
          clear hw
          have c0 := (B4.cell 0).trans (vp_get 5 _ _ 0 (by omega))
          have c1 := (B4.cell 1).trans (vp_get 5 _ _ 1 (by omega))
          have f1 := B4.frozen 1
          rw [show up (ch F) 0 X 0 = X from rfl] at c0
          rw [show up (ch F) 0 X 1 = ch F 1 from rfl, hD] at c1
          go_wp2_with fail
          go_region
          all_goals (
            have B5 := ((B4.setCell 1 (.int .u64 (Z : Nat))).to (vp_set 5 _ _ 1 Z (by omega))).drew
            have K5 := (K4.setIn (k := g) (by simp) 1 (.int .u64 (Z : Nat))).drew
            clear c0 c1 f1 B4 K4
            obtain ⟨w5, hw⟩ : ∃ z, z = (w4.setCell ⟨g, 1, none⟩ (.int .u64 (Z : Nat))).drew := ⟨_, rfl⟩
            rw [← hw] at B5 K5 ⊢
            clear hw
            have c0 := (B5.cell 0).trans (vp_get 5 _ _ 0 (by omega))
            have f0 := B5.frozen 0
            rw [show up (up (ch F) 0 X) 1 Z 0 = X from rfl] at c0
            go_wp2_with fail
            go_region
            have B6 := ((B5.setCell 0 (.int .u64 (E : Nat))).to ((vp_set 5 _ _ 0 E (by omega)).trans (congrArg (· ++ _) HV))).drew
            have K6 := (K5.setIn (k := g) (by simp) 0 (.int .u64 (E : Nat))).drew
            go_wp2_with fail
            go_end0
            exact ⟨rfl, B6, K6⟩)
end Go.Proofs.Ytnopkojpgemldaa
