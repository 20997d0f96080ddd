/- seal: residue.low. -/
import Derived.Test.YtnopkojpgemldaaSeT
set_option linter.unusedVariables false
set_option linter.unusedSimpArgs false
set_option linter.unnecessarySimpa false
namespace Go.Proofs.Ytnopkojpgemldaa
open Go.RowKit

theorem lv_up0 (c : Nat → Nat) (v : Nat) : lv (up c 0 v) + c 0 = lv c + v := by
  have e0 : up c 0 v 0 = v := rfl
  have e1 : up c 0 v 1 = c 1 := rfl
  have e2 : up c 0 v 2 = c 2 := rfl
  have e3 : up c 0 v 3 = c 3 := rfl
  have e4 : up c 0 v 4 = c 4 := rfl
  unfold lv
  rw [e0, e1, e2, e3, e4]
  omega
theorem lv_chlt (h : Nat → Nat) : lv (ch h) < 1361129467683753853853498429727072845824 := by
  have l0 := ch_lt h 0; have l1 := ch_lt h 1; have l2 := ch_lt h 2; have l3 := ch_lt h 3; have l4 := ch_lt h 4
  unfold lv; omega
/-- What low goes through. -/
theorem low_path {h : Nat → Nat} (hh : Hm h) : co h 5 ≤ 1 ∧ (∀ X, X = ch h 0 + 5 * co h 5 → X < 67108874 ∧
    (∀ g, g = up (ch h) 0 X → co g 5 = 0 ∧ (∀ Y, Y = ch g 0 + 5 → Y < 67108870 ∧ (∀ d, d = up (ch g) 0 Y →
      (co d 5 = 0 → lv (ch g) = lv h % PP) ∧ (¬ co d 5 = 0 → lv (ch d) = lv h % PP))))) := by
  obtain ⟨v, hv, hv1, hv2⟩ := low_val hh
  have hc : co h 5 ≤ 1 := by
    obtain ⟨h0, h1, h2, h3, h4⟩ := hh
    have e := lv_ch h
    have hb : lv h < 1361129467683753853853498429727072845824 + 549755813888 := by unfold lv; omega
    omega
  refine ⟨hc, fun X hX => ⟨by have := ch_lt h 0; omega, fun g hg => ?_⟩⟩
  have e1 := lv_up0 (ch h) X
  rw [← hg] at e1
  have e2 := lv_ch g
  have e3 := lv_chlt g
  have c0 : co g 5 = 0 := by omega
  refine ⟨c0, fun Y hY => ⟨by have := ch_lt g 0; omega, fun d hd => ?_⟩⟩
  have e4 := lv_up0 (ch g) Y
  rw [← hd] at e4
  have e5 := lv_ch d
  have e6 := lv_chlt d
  have e7 : lv (ch g) = v := by rw [c0] at e2; omega
  rw [← hv2]
  refine ⟨fun q => ?_, fun q => ?_⟩
  · rw [q] at e5
    rw [Nat.mod_eq_of_lt (by unfold PP; omega)]; exact e7
  · have q1 : co d 5 = 1 := by omega
    rw [q1] at e5
    rw [show v = (v - PP) + PP by unfold PP; omega, Nat.add_mod_right, Nat.mod_eq_of_lt (by unfold PP; omega)]
    unfold PP; omega
/-- Two words of five limbs. -/
theorem low_fin (C0 C1 C2 C3 C4 A : Nat) (h0 : C0 < 67108864) (h1 : C1 < 67108864) (h2 : C2 < 67108864) (h3 : C3 < 67108864) (h4 : C4 < 67108864)
    (hA : A = C0 + C1 * 67108864 + C2 * 4503599627370496 + C3 * 302231454903657293676544 + C4 * 20282409603651670423947251286016) :
    A % 18446744073709551616 = C0 + C1 * 67108864 + C2 * 4503599627370496 % 18446744073709551616 ∧ A / 18446744073709551616 % 18446744073709551616 = C2 / 4096 + C3 * 16384 + C4 * 1099511627776 % 18446744073709551616 := by
  constructor <;> omega
set_option maxHeartbeats 8000000 in
set_option maxRecDepth 100000 in
theorem low_s (h : Nat → Nat) (hh : Hm h) (w : World) :
    Calls Try.prog 70 #[.agg (vC 5 h)] w fun e w' => e = .returned (.tuple #[.int .u64 (lv h % PP % 18446744073709551616 : Nat), .int .u64 (lv h % PP / 18446744073709551616 % 18446744073709551616 : Nat)]) ∧ Chg w w' [] := by
  obtain ⟨p0, pp⟩ := low_path hh
  have HB0 : Hid (∀ i, i < 5 → h i < 9223372036854775808) := fun i hi => by
    obtain ⟨h0, h1, h2, h3, h4⟩ := hh
    have hcs : i = 0 ∨ i = 1 ∨ i = 2 ∨ i = 3 ∨ i = 4 := by omega
    rcases hcs with rfl | rfl | rfl | rfl | rfl <;> omega
  obtain ⟨X, hX⟩ : ∃ X, X = ch h 0 + 5 * co h 5 := ⟨_, rfl⟩
  obtain ⟨p1, pp⟩ := pp X hX
  obtain ⟨g, hg⟩ : ∃ g, g = up (ch h) 0 X := ⟨_, rfl⟩
  obtain ⟨p2, pp⟩ := pp g hg
  obtain ⟨Y, hY⟩ : ∃ Y, Y = ch g 0 + 5 := ⟨_, rfl⟩
  obtain ⟨p3, pp⟩ := pp Y hY
  obtain ⟨d, hd⟩ : ∃ d, d = up (ch g) 0 Y := ⟨_, rfl⟩
  have HPP := pp d hd
  clear pp hh
  have HB1 : Hid (∀ i, i < 5 → g i < 9223372036854775808) := fun i hi => by
    rw [hg]; unfold up; split
    · omega
    · have := ch_lt h i; omega
  have HB2 : Hid (∀ i, i < 5 → d i < 9223372036854775808) := fun i hi => by
    rw [hd]; unfold up; split
    · omega
    · have := ch_lt g i; omega
  have HP : Hid ((co d 5 = 0 → lv (ch g) = lv h % PP) ∧ (¬ co d 5 = 0 → lv (ch d) = lv h % PP)) := HPP
  obtain ⟨A, hA⟩ : ∃ A, lv h % PP = A := ⟨_, rfl⟩
  rw [hA] at HP ⊢
  clear HPP hA
  obtain ⟨RA, hRA⟩ : ∃ R, A % 18446744073709551616 = R := ⟨_, rfl⟩
  obtain ⟨RB, hRB⟩ : ∃ R, A / 18446744073709551616 % 18446744073709551616 = R := ⟨_, rfl⟩
  rw [hRA, hRB]
  have HR : Hid (A % 18446744073709551616 = RA ∧ A / 18446744073709551616 % 18446744073709551616 = RB) := ⟨hRA, hRB⟩
  clear hRA hRB
  go_enter Try.func70, Try.ntmps70
  go_wp2_with (with_reducible refine box_w rfl 110 (.tmp 0) rfl (vC 5 h) rfl ?_; intro xb w1 hxb B1 k1)
  replace B1 := B1.to (show vC 5 h = vC 5 h ++ #[] by rw [Array.append_empty])
  refine (carry_s xb h #[] 110 HB0.out w1 B1).mono ?_
  rintro e w2 ⟨rfl, B2, k2⟩
  have HX : Hid (w.heap.size ≤ xb) := hxb
  have K2 : Chg w w2 [] := k1.new k2 hxb
  clear B1 k1 k2 hxb HB0
  have c0 := (B2.cell 0).trans (vp_get 5 _ _ 0 (by omega))
  have f0 := B2.frozen 0
  have B3 := (B2.setCell 0 (.int .u64 (X : Nat))).to (vp_set 5 _ _ 0 X (by omega))
  rw [← hg] at B3
  have K3 : Chg w (w2.setCell ⟨xb, 0, none⟩ (.int .u64 (X : Nat))) [] := K2.setNew HX.out 0 _
  obtain ⟨C, hC⟩ : ∃ C, ch h 0 = C := ⟨_, rfl⟩
  obtain ⟨O, hO⟩ : ∃ O, co h 5 = O := ⟨_, rfl⟩
  rw [hC] at c0 hX
  rw [hO] at hX p0 ⊢
  obtain ⟨M, hM⟩ : ∃ M, 5 * O = M := ⟨_, rfl⟩
  have eM : IntKind.u64.wrap (5 * (O : Int)) = (M : Int) := by rw [IntKind.wrap_u64]; omega
  have eX : IntKind.u64.wrap ((C : Int) + (M : Int)) = (X : Int) := by rw [IntKind.wrap_u64]; omega
  have HB3 : Hid (Blk (w2.setCell ⟨xb, 0, none⟩ (.int .u64 (X : Nat))) xb (vC 5 g ++ #[]) 110 ∧ Chg w (w2.setCell ⟨xb, 0, none⟩ (.int .u64 (X : Nat))) []) := ⟨B3, K3⟩
  clear hX p0 hC hO hM hg B3 K3 B2 K2 p1
  go_wp2_with fail
  refine (carry_s xb g #[] 110 HB1.out _ HB3.out.1).mono ?_
  rintro e w4 ⟨rfl, B4, k4⟩
  have K4 : Chg w w4 [] := HB3.out.2.new k4 HX.out
  clear HB3 HB1 k4 eX eM c0 f0
  replace B4 := B4.to (Array.append_empty)
  obtain ⟨D, hD⟩ : ∃ D, ch g 0 = D := ⟨_, rfl⟩
  have HD : Hid (ch g 0 = D) := hD
  rw [hD] at hY
  have eY : IntKind.u64.wrap ((D : Int) + 5) = (Y : Int) := by rw [IntKind.wrap_u64]; omega
  clear hY hD p3
  go_wp2_with (first
    | (refine store_w BL rfl 110 _ _ (vC 5 (ch g)) rfl rfl rfl (by rw [vC_size]; exact rsdInfo) (by rw [vC_size, vC_size]) (vC_one 5 _) ?_; intro w6 BL6 k6; have c1 := (BL6.cell 0).trans (vC_get 5 _ 0 (by omega)); rw [HD.out] at c1; have f1 := BL6.frozen 0)
    | (with_reducible refine alloc_w rfl 110 rfl (.agg (vC 5 (fun _ => 0))) zeroRsd (vC 5 (fun _ => 0)) rfl ?_; intro lb' w5 hlb BL k5)
    | (with_reducible refine load_b B4 110 (.tmp 1) Try.underlying110 ?_ ?_ ?_ ?_ ?_ ?_
       · rfl
       · rfl
       · rfl
       · rfl
       · (rw [vC_size]; exact rsdInfo)))
  have HN : Hid (¬ xb = lb' ∧ w.heap.size ≤ lb') := ⟨by have := B4.lt; omega, by have := K4.size; omega⟩
  have K6 : Chg w w6 [] := (K4.trans1 k5).new k6 HN.out.2
  have B6 := (B4.chg k5 (by simp)).chg k6 (by have := HN.out.1; simpa using this)
  have BL7 := (BL6.setCell 0 (.int .u64 (Y : Nat))).to ((vC_set 5 _ 0 Y).trans (show vC 5 (up (ch g) 0 Y) = vC 5 d ++ #[] by rw [← hd, Array.append_empty]))
  have K7 : Chg w (w6.setCell ⟨lb', 0, none⟩ (.int .u64 (Y : Nat))) [] := K6.setNew HN.out.2 0 _
  have B7 := B6.setOther (d := lb') (by have := HN.out.1; omega) 0 (.int .u64 (Y : Nat))
  clear hd HD eY c1 f1 k5 k6 BL BL6 K6 B6 hlb B4 K4
  refine (carry_s lb' d #[] 110 HB2.out _ BL7).mono ?_
  rintro e w8 ⟨rfl, BL8, k8⟩
  have K8 : Chg w w8 [] := K7.new k8 HN.out.2
  have B8 := B7.chg k8 (by have := HN.out.1; simpa using this)
  replace BL8 := BL8.to (Array.append_empty)
  clear k8 K7 B7 BL7 HB2
  by_cases hq : co d 5 = 0
  · rw [hq]
    go_wp2_with fail
    obtain ⟨c, hc⟩ : ∃ c, ch g = c := ⟨_, rfl⟩
    have hL : lv c = A := by rw [← hc]; exact HP.out.1 hq
    have hlt : ∀ i, c i < 67108864 := fun i => by rw [← hc]; exact ch_lt g i
    rw [hc] at B8
    have B9 := B8
    have K9 := K8
    obtain ⟨w9, hw9⟩ : ∃ z, z = w8 := ⟨_, rfl⟩
    rw [← hw9] at B9 K9 ⊢
    clear hw9 hc
    have l0 := hlt 0; have l1 := hlt 1; have l2 := hlt 2; have l3 := hlt 3; have l4 := hlt 4
    obtain ⟨C0, h0⟩ : ∃ C, c 0 = C := ⟨_, rfl⟩
    obtain ⟨C1, h1⟩ : ∃ C, c 1 = C := ⟨_, rfl⟩
    obtain ⟨C2, h2⟩ : ∃ C, c 2 = C := ⟨_, rfl⟩
    obtain ⟨C3, h3⟩ : ∃ C, c 3 = C := ⟨_, rfl⟩
    obtain ⟨C4, h4⟩ : ∃ C, c 4 = C := ⟨_, rfl⟩
    have HC : Hid ((vC 5 c)[0]? = some (.int .u64 (C0 : Int)) ∧ (vC 5 c)[1]? = some (.int .u64 (C1 : Int)) ∧ (vC 5 c)[2]? = some (.int .u64 (C2 : Int)) ∧ (vC 5 c)[3]? = some (.int .u64 (C3 : Int)) ∧ (vC 5 c)[4]? = some (.int .u64 (C4 : Int))) :=
      ⟨by rw [← h0]; exact vC_get 5 _ 0 (by omega), by rw [← h1]; exact vC_get 5 _ 1 (by omega), by rw [← h2]; exact vC_get 5 _ 2 (by omega), by rw [← h3]; exact vC_get 5 _ 3 (by omega), by rw [← h4]; exact vC_get 5 _ 4 (by omega)⟩
    unfold lv at hL
    rw [h0, h1, h2, h3, h4] at hL
    rw [h0] at l0; rw [h1] at l1; rw [h2] at l2; rw [h3] at l3; rw [h4] at l4
    obtain ⟨rA, rB⟩ := low_fin C0 C1 C2 C3 C4 A l0 l1 l2 l3 l4 hL.symm
    obtain ⟨hRA, hRB⟩ := HR.out
    have e1 : IntKind.u64.wrap ((C1 : Int) * 67108864) = (C1 : Int) * 67108864 := by rw [IntKind.wrap_u64]; omega
    have e2 : bits .or .u64 (C0 : Int) ((C1 : Int) * 67108864) = (C0 : Int) + (C1 : Int) * 67108864 := or_join 26 _ _ (by decide) (by omega) (by simp only [Int.reducePow]; omega) (by omega) (by omega) (by simp only [Int.reducePow]; omega)
    obtain ⟨Q1, hQ1⟩ : ∃ Q, C0 + C1 * 67108864 = Q := ⟨_, rfl⟩
    have e2' : (C0 : Int) + (C1 : Int) * 67108864 = (Q1 : Int) := by omega
    obtain ⟨W2, hW2⟩ : ∃ Q, C2 * 4503599627370496 % 18446744073709551616 = Q := ⟨_, rfl⟩
    have e3 : IntKind.u64.wrap ((C2 : Int) * 4503599627370496) = (W2 : Int) := by rw [IntKind.wrap_u64]; omega
    have e4 : bits .or .u64 (Q1 : Int) (W2 : Int) = (RA : Int) := by
      rw [or_join 52 _ _ (by decide) (by omega) (by simp only [Int.reducePow]; omega) (by omega) (by omega) (by simp only [Int.reducePow]; omega)]; omega
    obtain ⟨S2, hS2⟩ : ∃ Q, C2 / 4096 = Q := ⟨_, rfl⟩
    have e5 : (C2 : Int) / 4096 = (S2 : Int) := by omega
    have e6 : IntKind.u64.wrap ((C3 : Int) * 16384) = (C3 : Int) * 16384 := by rw [IntKind.wrap_u64]; omega
    obtain ⟨Q3, hQ3⟩ : ∃ Q, S2 + C3 * 16384 = Q := ⟨_, rfl⟩
    have e7 : bits .or .u64 (S2 : Int) ((C3 : Int) * 16384) = (Q3 : Int) := by
      rw [or_join 14 _ _ (by decide) (by omega) (by simp only [Int.reducePow]; omega) (by omega) (by omega) (by simp only [Int.reducePow]; omega)]; omega
    obtain ⟨W4, hW4⟩ : ∃ Q, C4 * 1099511627776 % 18446744073709551616 = Q := ⟨_, rfl⟩
    have e8 : IntKind.u64.wrap ((C4 : Int) * 1099511627776) = (W4 : Int) := by rw [IntKind.wrap_u64]; omega
    have e9 : bits .or .u64 (Q3 : Int) (W4 : Int) = (RB : Int) := by
      rw [or_join 40 _ _ (by decide) (by omega) (by simp only [Int.reducePow]; omega) (by omega) (by omega) (by simp only [Int.reducePow]; omega)]; omega
    have e2b : bits .or .u64 (C0 : Int) ((C1 : Int) * 67108864) = (Q1 : Int) := by rw [e2, e2']
    clear e2 e2' rA rB hRA hRB hQ1 hW2 hS2 hQ3 hW4 hL l0 l1 l2 l3 l4 h0 h1 h2 h3 h4 hlt
    go_wp2_with fail
    have hHeld : Blk w9.drew xb (vC 5 c) 110 := B9.drew
    have K10 : Chg w w9.drew [] := K9.drew
    refine lt_begin (fun w' => Blk w' xb (vC 5 c) 110) (fun n => false) (by kernel_rfl) ?_
    obtain ⟨z0, hz⟩ : ∃ z, z = w9.drew := ⟨_, rfl⟩
    rw [← hz] at hHeld K10 ⊢
    clear hz B9 K9
    refine lt_val (v := ?_) 0 (some 22) rfl (by kernel_rfl) (by kernel_rfl) (by kernel_rfl) (fun _ _ _ h => h) rfl rfl (fun w => ?_) ?_
    rotate_left
    · (go_simp; try with_reducible rfl)
    try simp only [Act.put, List.setIfInBounds_toArray, List.set_cons_zero, List.set_cons_succ]
    refine lt_read (v := ?_) 1 (some 23) rfl (by kernel_rfl) (by kernel_rfl) (by kernel_rfl) (by kernel_rfl) (fun _ _ _ h => h) rfl rfl (fun w hSw => ?_) hHeld ?_
    rotate_left
    · (have qa := (hSw.cell 0).trans HC.out.1; have qb := (hSw.cell 1).trans HC.out.2.1; have qc := (hSw.cell 2).trans HC.out.2.2.1; have qd := (hSw.cell 3).trans HC.out.2.2.2.1; have qe := (hSw.cell 4).trans HC.out.2.2.2.2); (go_simp; try with_reducible rfl)
    try simp only [Act.put, List.setIfInBounds_toArray, List.set_cons_zero, List.set_cons_succ]
    refine lt_val (v := ?_) 2 (some 24) rfl (by kernel_rfl) (by kernel_rfl) (by kernel_rfl) (fun _ _ _ h => h) rfl rfl (fun w => ?_) ?_
    rotate_left
    · (go_simp; try with_reducible rfl)
    try simp only [Act.put, List.setIfInBounds_toArray, List.set_cons_zero, List.set_cons_succ]
    refine lt_read (v := ?_) 3 (some 25) rfl (by kernel_rfl) (by kernel_rfl) (by kernel_rfl) (by kernel_rfl) (fun _ _ _ h => h) rfl rfl (fun w hSw => ?_) hHeld ?_
    rotate_left
    · (have qa := (hSw.cell 0).trans HC.out.1; have qb := (hSw.cell 1).trans HC.out.2.1; have qc := (hSw.cell 2).trans HC.out.2.2.1; have qd := (hSw.cell 3).trans HC.out.2.2.2.1; have qe := (hSw.cell 4).trans HC.out.2.2.2.2); (go_simp; try with_reducible rfl)
    try simp only [Act.put, List.setIfInBounds_toArray, List.set_cons_zero, List.set_cons_succ]
    refine lt_val (v := (.int .u64 ((C1 : Int) * 67108864))) 4 (some 26) rfl (by kernel_rfl) (by kernel_rfl) (by kernel_rfl) (fun _ _ _ h => h) rfl rfl (fun w => ?_) ?_
    · (go_simp; try with_reducible rfl)
    try simp only [Act.put, List.setIfInBounds_toArray, List.set_cons_zero, List.set_cons_succ]
    refine lt_val (v := (.int .u64 (Q1 : Int))) 5 (some 27) rfl (by kernel_rfl) (by kernel_rfl) (by kernel_rfl) (fun _ _ _ h => h) rfl rfl (fun w => ?_) ?_
    · (go_simp; try with_reducible rfl)
    try simp only [Act.put, List.setIfInBounds_toArray, List.set_cons_zero, List.set_cons_succ]
    refine lt_val (v := ?_) 6 (some 28) rfl (by kernel_rfl) (by kernel_rfl) (by kernel_rfl) (fun _ _ _ h => h) rfl rfl (fun w => ?_) ?_
    rotate_left
    · (go_simp; try with_reducible rfl)
    try simp only [Act.put, List.setIfInBounds_toArray, List.set_cons_zero, List.set_cons_succ]
    refine lt_read (v := ?_) 7 (some 29) rfl (by kernel_rfl) (by kernel_rfl) (by kernel_rfl) (by kernel_rfl) (fun _ _ _ h => h) rfl rfl (fun w hSw => ?_) hHeld ?_
    rotate_left
    · (have qa := (hSw.cell 0).trans HC.out.1; have qb := (hSw.cell 1).trans HC.out.2.1; have qc := (hSw.cell 2).trans HC.out.2.2.1; have qd := (hSw.cell 3).trans HC.out.2.2.2.1; have qe := (hSw.cell 4).trans HC.out.2.2.2.2); (go_simp; try with_reducible rfl)
    try simp only [Act.put, List.setIfInBounds_toArray, List.set_cons_zero, List.set_cons_succ]
    refine lt_val (v := (.int .u64 (W2 : Int))) 8 (some 30) rfl (by kernel_rfl) (by kernel_rfl) (by kernel_rfl) (fun _ _ _ h => h) rfl rfl (fun w => ?_) ?_
    · (go_simp; try with_reducible rfl)
    try simp only [Act.put, List.setIfInBounds_toArray, List.set_cons_zero, List.set_cons_succ]
    refine lt_val (v := (.int .u64 (RA : Int))) 9 (some 31) rfl (by kernel_rfl) (by kernel_rfl) (by kernel_rfl) (fun _ _ _ h => h) rfl rfl (fun w => ?_) ?_
    · (go_simp; try with_reducible rfl)
    try simp only [Act.put, List.setIfInBounds_toArray, List.set_cons_zero, List.set_cons_succ]
    refine lt_val (v := ?_) 10 (some 32) rfl (by kernel_rfl) (by kernel_rfl) (by kernel_rfl) (fun _ _ _ h => h) rfl rfl (fun w => ?_) ?_
    rotate_left
    · (go_simp; try with_reducible rfl)
    try simp only [Act.put, List.setIfInBounds_toArray, List.set_cons_zero, List.set_cons_succ]
    refine lt_read (v := ?_) 11 (some 33) rfl (by kernel_rfl) (by kernel_rfl) (by kernel_rfl) (by kernel_rfl) (fun _ _ _ h => h) rfl rfl (fun w hSw => ?_) hHeld ?_
    rotate_left
    · (have qa := (hSw.cell 0).trans HC.out.1; have qb := (hSw.cell 1).trans HC.out.2.1; have qc := (hSw.cell 2).trans HC.out.2.2.1; have qd := (hSw.cell 3).trans HC.out.2.2.2.1; have qe := (hSw.cell 4).trans HC.out.2.2.2.2); (go_simp; try with_reducible rfl)
    try simp only [Act.put, List.setIfInBounds_toArray, List.set_cons_zero, List.set_cons_succ]
    refine lt_val (v := (.int .u64 (S2 : Int))) 12 (some 34) rfl (by kernel_rfl) (by kernel_rfl) (by kernel_rfl) (fun _ _ _ h => h) rfl rfl (fun w => ?_) ?_
    · (go_simp; try with_reducible rfl)
    try simp only [Act.put, List.setIfInBounds_toArray, List.set_cons_zero, List.set_cons_succ]
    refine lt_val (v := ?_) 13 (some 35) rfl (by kernel_rfl) (by kernel_rfl) (by kernel_rfl) (fun _ _ _ h => h) rfl rfl (fun w => ?_) ?_
    rotate_left
    · (go_simp; try with_reducible rfl)
    try simp only [Act.put, List.setIfInBounds_toArray, List.set_cons_zero, List.set_cons_succ]
    refine lt_read (v := ?_) 14 (some 36) rfl (by kernel_rfl) (by kernel_rfl) (by kernel_rfl) (by kernel_rfl) (fun _ _ _ h => h) rfl rfl (fun w hSw => ?_) hHeld ?_
    rotate_left
    · (have qa := (hSw.cell 0).trans HC.out.1; have qb := (hSw.cell 1).trans HC.out.2.1; have qc := (hSw.cell 2).trans HC.out.2.2.1; have qd := (hSw.cell 3).trans HC.out.2.2.2.1; have qe := (hSw.cell 4).trans HC.out.2.2.2.2); (go_simp; try with_reducible rfl)
    try simp only [Act.put, List.setIfInBounds_toArray, List.set_cons_zero, List.set_cons_succ]
    refine lt_val (v := (.int .u64 ((C3 : Int) * 16384))) 15 (some 37) rfl (by kernel_rfl) (by kernel_rfl) (by kernel_rfl) (fun _ _ _ h => h) rfl rfl (fun w => ?_) ?_
    · (go_simp; try with_reducible rfl)
    try simp only [Act.put, List.setIfInBounds_toArray, List.set_cons_zero, List.set_cons_succ]
    refine lt_val (v := (.int .u64 (Q3 : Int))) 16 (some 38) rfl (by kernel_rfl) (by kernel_rfl) (by kernel_rfl) (fun _ _ _ h => h) rfl rfl (fun w => ?_) ?_
    · (go_simp; try with_reducible rfl)
    try simp only [Act.put, List.setIfInBounds_toArray, List.set_cons_zero, List.set_cons_succ]
    refine lt_val (v := ?_) 17 (some 39) rfl (by kernel_rfl) (by kernel_rfl) (by kernel_rfl) (fun _ _ _ h => h) rfl rfl (fun w => ?_) ?_
    rotate_left
    · (go_simp; try with_reducible rfl)
    try simp only [Act.put, List.setIfInBounds_toArray, List.set_cons_zero, List.set_cons_succ]
    refine lt_read (v := ?_) 18 (some 40) rfl (by kernel_rfl) (by kernel_rfl) (by kernel_rfl) (by kernel_rfl) (fun _ _ _ h => h) rfl rfl (fun w hSw => ?_) hHeld ?_
    rotate_left
    · (have qa := (hSw.cell 0).trans HC.out.1; have qb := (hSw.cell 1).trans HC.out.2.1; have qc := (hSw.cell 2).trans HC.out.2.2.1; have qd := (hSw.cell 3).trans HC.out.2.2.2.1; have qe := (hSw.cell 4).trans HC.out.2.2.2.2); (go_simp; try with_reducible rfl)
    try simp only [Act.put, List.setIfInBounds_toArray, List.set_cons_zero, List.set_cons_succ]
    refine lt_val (v := (.int .u64 (W4 : Int))) 19 (some 41) rfl (by kernel_rfl) (by kernel_rfl) (by kernel_rfl) (fun _ _ _ h => h) rfl rfl (fun w => ?_) ?_
    · (go_simp; try with_reducible rfl)
    try simp only [Act.put, List.setIfInBounds_toArray, List.set_cons_zero, List.set_cons_succ]
    refine lt_val (v := (.int .u64 (RB : Int))) 20 (some 42) rfl (by kernel_rfl) (by kernel_rfl) (by kernel_rfl) (fun _ _ _ h => h) rfl rfl (fun w => ?_) ?_
    · (go_simp; try with_reducible rfl)
    try simp only [Act.put, List.setIfInBounds_toArray, List.set_cons_zero, List.set_cons_succ]
    refine lt_val (v := ?_) 21 (some 2) rfl (by kernel_rfl) (by kernel_rfl) (by kernel_rfl) (fun _ _ _ h => h) rfl rfl (fun w => ?_) ?_
    rotate_left
    · (go_simp; try with_reducible rfl)
    try simp only [Act.put, List.setIfInBounds_toArray, List.set_cons_zero, List.set_cons_succ]
    refine lt_val (v := ?_) 22 (some 3) rfl (by kernel_rfl) (by kernel_rfl) (by kernel_rfl) (fun _ _ _ h => h) rfl rfl (fun w => ?_) ?_
    rotate_left
    · (go_simp; try with_reducible rfl)
    try simp only [Act.put, List.setIfInBounds_toArray, List.set_cons_zero, List.set_cons_succ]
    refine lt_done (by kernel_rfl) ?_ _
    go_wp2_with fail
    go_ret2
    exact ⟨rfl, K10⟩
  · obtain ⟨O, hO⟩ : ∃ O, co d 5 = O := ⟨_, rfl⟩
    have hL0 := HP.out.2 hq
    rw [hO] at hq ⊢
    have hq1 : (0 : Int) < (O : Int) := by omega
    go_wp2_with (first
      | (refine store_w B8 rfl 110 _ _ (vC 5 (ch d)) rfl rfl rfl (by rw [vC_size]; exact rsdInfo) (by rw [vC_size, vC_size]) (vC_one 5 _) ?_; intro w9 B9 k9)
      | (with_reducible refine load_b BL8 110 (.tmp 5) Try.underlying110 ?_ ?_ ?_ ?_ ?_ ?_
         · rfl
         · rfl
         · rfl
         · rfl
         · (rw [vC_size]; exact rsdInfo)))
    have K9 : Chg w w9 [] := K8.new k9 HX.out
    obtain ⟨c, hc⟩ : ∃ c, ch d = c := ⟨_, rfl⟩
    have hL : lv c = A := by rw [← hc]; exact hL0
    have hlt : ∀ i, c i < 67108864 := fun i => by rw [← hc]; exact ch_lt d i
    rw [hc] at B9
    clear hL0 hc k9 K8 B8
    have l0 := hlt 0; have l1 := hlt 1; have l2 := hlt 2; have l3 := hlt 3; have l4 := hlt 4
    obtain ⟨C0, h0⟩ : ∃ C, c 0 = C := ⟨_, rfl⟩
    obtain ⟨C1, h1⟩ : ∃ C, c 1 = C := ⟨_, rfl⟩
    obtain ⟨C2, h2⟩ : ∃ C, c 2 = C := ⟨_, rfl⟩
    obtain ⟨C3, h3⟩ : ∃ C, c 3 = C := ⟨_, rfl⟩
    obtain ⟨C4, h4⟩ : ∃ C, c 4 = C := ⟨_, rfl⟩
    have HC : Hid ((vC 5 c)[0]? = some (.int .u64 (C0 : Int)) ∧ (vC 5 c)[1]? = some (.int .u64 (C1 : Int)) ∧ (vC 5 c)[2]? = some (.int .u64 (C2 : Int)) ∧ (vC 5 c)[3]? = some (.int .u64 (C3 : Int)) ∧ (vC 5 c)[4]? = some (.int .u64 (C4 : Int))) :=
      ⟨by rw [← h0]; exact vC_get 5 _ 0 (by omega), by rw [← h1]; exact vC_get 5 _ 1 (by omega), by rw [← h2]; exact vC_get 5 _ 2 (by omega), by rw [← h3]; exact vC_get 5 _ 3 (by omega), by rw [← h4]; exact vC_get 5 _ 4 (by omega)⟩
    unfold lv at hL
    rw [h0, h1, h2, h3, h4] at hL
    rw [h0] at l0; rw [h1] at l1; rw [h2] at l2; rw [h3] at l3; rw [h4] at l4
    obtain ⟨rA, rB⟩ := low_fin C0 C1 C2 C3 C4 A l0 l1 l2 l3 l4 hL.symm
    obtain ⟨hRA, hRB⟩ := HR.out
    have e1 : IntKind.u64.wrap ((C1 : Int) * 67108864) = (C1 : Int) * 67108864 := by rw [IntKind.wrap_u64]; omega
    have e2 : bits .or .u64 (C0 : Int) ((C1 : Int) * 67108864) = (C0 : Int) + (C1 : Int) * 67108864 := or_join 26 _ _ (by decide) (by omega) (by simp only [Int.reducePow]; omega) (by omega) (by omega) (by simp only [Int.reducePow]; omega)
    obtain ⟨Q1, hQ1⟩ : ∃ Q, C0 + C1 * 67108864 = Q := ⟨_, rfl⟩
    have e2' : (C0 : Int) + (C1 : Int) * 67108864 = (Q1 : Int) := by omega
    obtain ⟨W2, hW2⟩ : ∃ Q, C2 * 4503599627370496 % 18446744073709551616 = Q := ⟨_, rfl⟩
    have e3 : IntKind.u64.wrap ((C2 : Int) * 4503599627370496) = (W2 : Int) := by rw [IntKind.wrap_u64]; omega
    have e4 : bits .or .u64 (Q1 : Int) (W2 : Int) = (RA : Int) := by
      rw [or_join 52 _ _ (by decide) (by omega) (by simp only [Int.reducePow]; omega) (by omega) (by omega) (by simp only [Int.reducePow]; omega)]; omega
    obtain ⟨S2, hS2⟩ : ∃ Q, C2 / 4096 = Q := ⟨_, rfl⟩
    have e5 : (C2 : Int) / 4096 = (S2 : Int) := by omega
    have e6 : IntKind.u64.wrap ((C3 : Int) * 16384) = (C3 : Int) * 16384 := by rw [IntKind.wrap_u64]; omega
    obtain ⟨Q3, hQ3⟩ : ∃ Q, S2 + C3 * 16384 = Q := ⟨_, rfl⟩
    have e7 : bits .or .u64 (S2 : Int) ((C3 : Int) * 16384) = (Q3 : Int) := by
      rw [or_join 14 _ _ (by decide) (by omega) (by simp only [Int.reducePow]; omega) (by omega) (by omega) (by simp only [Int.reducePow]; omega)]; omega
    obtain ⟨W4, hW4⟩ : ∃ Q, C4 * 1099511627776 % 18446744073709551616 = Q := ⟨_, rfl⟩
    have e8 : IntKind.u64.wrap ((C4 : Int) * 1099511627776) = (W4 : Int) := by rw [IntKind.wrap_u64]; omega
    have e9 : bits .or .u64 (Q3 : Int) (W4 : Int) = (RB : Int) := by
      rw [or_join 40 _ _ (by decide) (by omega) (by simp only [Int.reducePow]; omega) (by omega) (by omega) (by simp only [Int.reducePow]; omega)]; omega
    have e2b : bits .or .u64 (C0 : Int) ((C1 : Int) * 67108864) = (Q1 : Int) := by rw [e2, e2']
    clear e2 e2' rA rB hRA hRB hQ1 hW2 hS2 hQ3 hW4 hL l0 l1 l2 l3 l4 h0 h1 h2 h3 h4 hlt
    go_wp2_with fail
    have hHeld : Blk w9.drew xb (vC 5 c) 110 := B9.drew
    have K10 : Chg w w9.drew [] := K9.drew
    refine lt_begin (fun w' => Blk w' xb (vC 5 c) 110) (fun n => false) (by kernel_rfl) ?_
    obtain ⟨z0, hz⟩ : ∃ z, z = w9.drew := ⟨_, rfl⟩
    rw [← hz] at hHeld K10 ⊢
    clear hz B9 K9
    refine lt_val (v := ?_) 0 (some 22) rfl (by kernel_rfl) (by kernel_rfl) (by kernel_rfl) (fun _ _ _ h => h) rfl rfl (fun w => ?_) ?_
    rotate_left
    · (go_simp; try with_reducible rfl)
    try simp only [Act.put, List.setIfInBounds_toArray, List.set_cons_zero, List.set_cons_succ]
    refine lt_read (v := ?_) 1 (some 23) rfl (by kernel_rfl) (by kernel_rfl) (by kernel_rfl) (by kernel_rfl) (fun _ _ _ h => h) rfl rfl (fun w hSw => ?_) hHeld ?_
    rotate_left
    · (have qa := (hSw.cell 0).trans HC.out.1; have qb := (hSw.cell 1).trans HC.out.2.1; have qc := (hSw.cell 2).trans HC.out.2.2.1; have qd := (hSw.cell 3).trans HC.out.2.2.2.1; have qe := (hSw.cell 4).trans HC.out.2.2.2.2); (go_simp; try with_reducible rfl)
    try simp only [Act.put, List.setIfInBounds_toArray, List.set_cons_zero, List.set_cons_succ]
    refine lt_val (v := ?_) 2 (some 24) rfl (by kernel_rfl) (by kernel_rfl) (by kernel_rfl) (fun _ _ _ h => h) rfl rfl (fun w => ?_) ?_
    rotate_left
    · (go_simp; try with_reducible rfl)
    try simp only [Act.put, List.setIfInBounds_toArray, List.set_cons_zero, List.set_cons_succ]
    refine lt_read (v := ?_) 3 (some 25) rfl (by kernel_rfl) (by kernel_rfl) (by kernel_rfl) (by kernel_rfl) (fun _ _ _ h => h) rfl rfl (fun w hSw => ?_) hHeld ?_
    rotate_left
    · (have qa := (hSw.cell 0).trans HC.out.1; have qb := (hSw.cell 1).trans HC.out.2.1; have qc := (hSw.cell 2).trans HC.out.2.2.1; have qd := (hSw.cell 3).trans HC.out.2.2.2.1; have qe := (hSw.cell 4).trans HC.out.2.2.2.2); (go_simp; try with_reducible rfl)
    try simp only [Act.put, List.setIfInBounds_toArray, List.set_cons_zero, List.set_cons_succ]
    refine lt_val (v := (.int .u64 ((C1 : Int) * 67108864))) 4 (some 26) rfl (by kernel_rfl) (by kernel_rfl) (by kernel_rfl) (fun _ _ _ h => h) rfl rfl (fun w => ?_) ?_
    · (go_simp; try with_reducible rfl)
    try simp only [Act.put, List.setIfInBounds_toArray, List.set_cons_zero, List.set_cons_succ]
    refine lt_val (v := (.int .u64 (Q1 : Int))) 5 (some 27) rfl (by kernel_rfl) (by kernel_rfl) (by kernel_rfl) (fun _ _ _ h => h) rfl rfl (fun w => ?_) ?_
    · (go_simp; try with_reducible rfl)
    try simp only [Act.put, List.setIfInBounds_toArray, List.set_cons_zero, List.set_cons_succ]
    refine lt_val (v := ?_) 6 (some 28) rfl (by kernel_rfl) (by kernel_rfl) (by kernel_rfl) (fun _ _ _ h => h) rfl rfl (fun w => ?_) ?_
    rotate_left
    · (go_simp; try with_reducible rfl)
    try simp only [Act.put, List.setIfInBounds_toArray, List.set_cons_zero, List.set_cons_succ]
    refine lt_read (v := ?_) 7 (some 29) rfl (by kernel_rfl) (by kernel_rfl) (by kernel_rfl) (by kernel_rfl) (fun _ _ _ h => h) rfl rfl (fun w hSw => ?_) hHeld ?_
    rotate_left
    · (have qa := (hSw.cell 0).trans HC.out.1; have qb := (hSw.cell 1).trans HC.out.2.1; have qc := (hSw.cell 2).trans HC.out.2.2.1; have qd := (hSw.cell 3).trans HC.out.2.2.2.1; have qe := (hSw.cell 4).trans HC.out.2.2.2.2); (go_simp; try with_reducible rfl)
    try simp only [Act.put, List.setIfInBounds_toArray, List.set_cons_zero, List.set_cons_succ]
    refine lt_val (v := (.int .u64 (W2 : Int))) 8 (some 30) rfl (by kernel_rfl) (by kernel_rfl) (by kernel_rfl) (fun _ _ _ h => h) rfl rfl (fun w => ?_) ?_
    · (go_simp; try with_reducible rfl)
    try simp only [Act.put, List.setIfInBounds_toArray, List.set_cons_zero, List.set_cons_succ]
    refine lt_val (v := (.int .u64 (RA : Int))) 9 (some 31) rfl (by kernel_rfl) (by kernel_rfl) (by kernel_rfl) (fun _ _ _ h => h) rfl rfl (fun w => ?_) ?_
    · (go_simp; try with_reducible rfl)
    try simp only [Act.put, List.setIfInBounds_toArray, List.set_cons_zero, List.set_cons_succ]
    refine lt_val (v := ?_) 10 (some 32) rfl (by kernel_rfl) (by kernel_rfl) (by kernel_rfl) (fun _ _ _ h => h) rfl rfl (fun w => ?_) ?_
    rotate_left
    · (go_simp; try with_reducible rfl)
    try simp only [Act.put, List.setIfInBounds_toArray, List.set_cons_zero, List.set_cons_succ]
    refine lt_read (v := ?_) 11 (some 33) rfl (by kernel_rfl) (by kernel_rfl) (by kernel_rfl) (by kernel_rfl) (fun _ _ _ h => h) rfl rfl (fun w hSw => ?_) hHeld ?_
    rotate_left
    · (have qa := (hSw.cell 0).trans HC.out.1; have qb := (hSw.cell 1).trans HC.out.2.1; have qc := (hSw.cell 2).trans HC.out.2.2.1; have qd := (hSw.cell 3).trans HC.out.2.2.2.1; have qe := (hSw.cell 4).trans HC.out.2.2.2.2); (go_simp; try with_reducible rfl)
    try simp only [Act.put, List.setIfInBounds_toArray, List.set_cons_zero, List.set_cons_succ]
    refine lt_val (v := (.int .u64 (S2 : Int))) 12 (some 34) rfl (by kernel_rfl) (by kernel_rfl) (by kernel_rfl) (fun _ _ _ h => h) rfl rfl (fun w => ?_) ?_
    · (go_simp; try with_reducible rfl)
    try simp only [Act.put, List.setIfInBounds_toArray, List.set_cons_zero, List.set_cons_succ]
    refine lt_val (v := ?_) 13 (some 35) rfl (by kernel_rfl) (by kernel_rfl) (by kernel_rfl) (fun _ _ _ h => h) rfl rfl (fun w => ?_) ?_
    rotate_left
    · (go_simp; try with_reducible rfl)
    try simp only [Act.put, List.setIfInBounds_toArray, List.set_cons_zero, List.set_cons_succ]
    refine lt_read (v := ?_) 14 (some 36) rfl (by kernel_rfl) (by kernel_rfl) (by kernel_rfl) (by kernel_rfl) (fun _ _ _ h => h) rfl rfl (fun w hSw => ?_) hHeld ?_
    rotate_left
    · (have qa := (hSw.cell 0).trans HC.out.1; have qb := (hSw.cell 1).trans HC.out.2.1; have qc := (hSw.cell 2).trans HC.out.2.2.1; have qd := (hSw.cell 3).trans HC.out.2.2.2.1; have qe := (hSw.cell 4).trans HC.out.2.2.2.2); (go_simp; try with_reducible rfl)
    try simp only [Act.put, List.setIfInBounds_toArray, List.set_cons_zero, List.set_cons_succ]
    refine lt_val (v := (.int .u64 ((C3 : Int) * 16384))) 15 (some 37) rfl (by kernel_rfl) (by kernel_rfl) (by kernel_rfl) (fun _ _ _ h => h) rfl rfl (fun w => ?_) ?_
    · (go_simp; try with_reducible rfl)
    try simp only [Act.put, List.setIfInBounds_toArray, List.set_cons_zero, List.set_cons_succ]
    refine lt_val (v := (.int .u64 (Q3 : Int))) 16 (some 38) rfl (by kernel_rfl) (by kernel_rfl) (by kernel_rfl) (fun _ _ _ h => h) rfl rfl (fun w => ?_) ?_
    · (go_simp; try with_reducible rfl)
    try simp only [Act.put, List.setIfInBounds_toArray, List.set_cons_zero, List.set_cons_succ]
    refine lt_val (v := ?_) 17 (some 39) rfl (by kernel_rfl) (by kernel_rfl) (by kernel_rfl) (fun _ _ _ h => h) rfl rfl (fun w => ?_) ?_
    rotate_left
    · (go_simp; try with_reducible rfl)
    try simp only [Act.put, List.setIfInBounds_toArray, List.set_cons_zero, List.set_cons_succ]
    refine lt_read (v := ?_) 18 (some 40) rfl (by kernel_rfl) (by kernel_rfl) (by kernel_rfl) (by kernel_rfl) (fun _ _ _ h => h) rfl rfl (fun w hSw => ?_) hHeld ?_
    rotate_left
    · (have qa := (hSw.cell 0).trans HC.out.1; have qb := (hSw.cell 1).trans HC.out.2.1; have qc := (hSw.cell 2).trans HC.out.2.2.1; have qd := (hSw.cell 3).trans HC.out.2.2.2.1; have qe := (hSw.cell 4).trans HC.out.2.2.2.2); (go_simp; try with_reducible rfl)
    try simp only [Act.put, List.setIfInBounds_toArray, List.set_cons_zero, List.set_cons_succ]
    refine lt_val (v := (.int .u64 (W4 : Int))) 19 (some 41) rfl (by kernel_rfl) (by kernel_rfl) (by kernel_rfl) (fun _ _ _ h => h) rfl rfl (fun w => ?_) ?_
    · (go_simp; try with_reducible rfl)
    try simp only [Act.put, List.setIfInBounds_toArray, List.set_cons_zero, List.set_cons_succ]
    refine lt_val (v := (.int .u64 (RB : Int))) 20 (some 42) rfl (by kernel_rfl) (by kernel_rfl) (by kernel_rfl) (fun _ _ _ h => h) rfl rfl (fun w => ?_) ?_
    · (go_simp; try with_reducible rfl)
    try simp only [Act.put, List.setIfInBounds_toArray, List.set_cons_zero, List.set_cons_succ]
    refine lt_val (v := ?_) 21 (some 2) rfl (by kernel_rfl) (by kernel_rfl) (by kernel_rfl) (fun _ _ _ h => h) rfl rfl (fun w => ?_) ?_
    rotate_left
    · (go_simp; try with_reducible rfl)
    try simp only [Act.put, List.setIfInBounds_toArray, List.set_cons_zero, List.set_cons_succ]
    refine lt_val (v := ?_) 22 (some 3) rfl (by kernel_rfl) (by kernel_rfl) (by kernel_rfl) (fun _ _ _ h => h) rfl rfl (fun w => ?_) ?_
    rotate_left
    · (go_simp; try with_reducible rfl)
    try simp only [Act.put, List.setIfInBounds_toArray, List.set_cons_zero, List.set_cons_succ]
    refine lt_done (by kernel_rfl) ?_ _
    go_wp2_with fail
    go_ret2
    exact ⟨rfl, K10⟩
end Go.Proofs.Ytnopkojpgemldaa
