/- seal: residueOf. -/
import Derived.Test.YtnopkojpgemldaaSeQ
set_option linter.unusedVariables false
set_option linter.unusedSimpArgs false
set_option linter.unnecessarySimpa false
namespace Go.Proofs.Ytnopkojpgemldaa
open Go.RowKit

set_option maxHeartbeats 8000000 in
set_option maxRecDepth 100000 in
theorem residueOf_s (g : Nat) (b : Nat → Nat) (T : TypeId) (w : World) (hb : ∀ i, i < 17 → b i < 256) (hb1 : b 16 ≤ 1) (B : Blk w g (yC 17 b) T) :
    Calls Try.prog 67 #[.pointer (some ⟨g, 0, none⟩)] w fun e w' => e = .returned (.agg (vC 5 (lb (nle b 17)))) ∧ Chg w w' [] := by
  have HB : Hid (Blk w g (yC 17 b) T ∧ (∀ i, i < 17 → b i < 256)) := ⟨B, hb⟩
  have hN := nle17 b
  rw [← le8_nle, ← le8_nle] at hN
  have hL := le8_lt (b := b) (fun i hi => hb i (by omega))
  have hH := le8_lt (b := fun i => b (8 + i)) (fun i hi => hb _ (by omega))
  obtain ⟨N, hNN⟩ : ∃ N, nle b 17 = N := ⟨_, rfl⟩
  obtain ⟨L, hLL⟩ : ∃ L, le8 b = L := ⟨_, rfl⟩
  obtain ⟨H, hHH⟩ : ∃ H, le8 (fun i => b (8 + i)) = H := ⟨_, rfl⟩
  obtain ⟨D, hDD⟩ : ∃ D, b 16 = D := ⟨_, rfl⟩
  rw [hNN, hLL, hHH, hDD] at hN
  rw [hLL] at hL; rw [hHH] at hH; rw [hDD] at hb1
  unfold U at hL hH
  have HC : Hid (∀ k w', Chg w w' [] → Calls Try.prog 38 #[.slice (some ⟨g, 0, none⟩) 17 17] (w'.drewN k) fun e v => e = .returned (.int .u64 (L : Int)) ∧ ∃ m, v = (w'.drewN k).drewN m) := fun k w' hc => by
    have q := long_s g 0 17 17 b (w'.drewN k) (by omega) (by omega) (by have := ((HB.out.1.chg hc (by simp)).drewN k).bs8 0 (by omega) HB.out.2; simpa using this)
    rw [hLL] at q; exact q
  have HD : Hid (∀ k w', Chg w w' [] → Calls Try.prog 38 #[.slice (some ⟨g, 8, none⟩) 9 9] (w'.drewN k) fun e v => e = .returned (.int .u64 (H : Int)) ∧ ∃ m, v = (w'.drewN k).drewN m) := fun k w' hc => by
    have q := long_s g 8 9 9 (fun i => b (8 + i)) (w'.drewN k) (by omega) (by omega) (((HB.out.1.chg hc (by simp)).drewN k).bs8 8 (by omega) HB.out.2)
    rw [hHH] at q; exact q
  obtain ⟨q0, q1, q2, q3, q4⟩ := lb_of L H D hL hH hb1
  rw [← hN] at q0 q1 q2 q3 q4
  rw [hNN]
  obtain ⟨r, hr⟩ : ∃ r, lb N = r := ⟨_, rfl⟩
  rw [hr] at q0 q1 q2 q3 q4 ⊢
  have e0 : bits .and .u64 (L : Int) 67108863 = ((r 0 : Nat) : Int) := by rw [q0]; exact and26 L hL
  have e1 : bits .and .u64 ((L : Int) / 67108864) 67108863 = ((r 1 : Nat) : Int) := by rw [q1, show (L : Int) / 67108864 = ((L / 67108864 : Nat) : Int) by omega]; exact and26 _ (by omega)
  have e2a : bits .or .u64 ((L : Int) / 4503599627370496) (IntKind.u64.wrap ((H : Int) * 4096)) = ((L / 4503599627370496 + H * 4096 % 18446744073709551616 : Nat) : Int) := by
    rw [IntKind.wrap_u64, or_join 12 _ _ (by decide) (by omega) (by simp only [Int.reducePow]; omega) (by omega) (by omega) (by simp only [Int.reducePow]; omega)]
    omega
  have e2 : bits .and .u64 ((L / 4503599627370496 + H * 4096 % 18446744073709551616 : Nat) : Int) 67108863 = ((r 2 : Nat) : Int) := by rw [q2, and26 _ (by omega)]; congr 1; omega
  have e3 : bits .and .u64 ((H : Int) / 16384) 67108863 = ((r 3 : Nat) : Int) := by rw [q3, show (H : Int) / 16384 = ((H / 16384 : Nat) : Int) by omega]; exact and26 _ (by omega)
  have e4 : bits .or .u64 ((H : Int) / 1099511627776) ((D : Int) * 16777216) = ((r 4 : Nat) : Int) := by
    rw [q4, or_join 24 _ _ (by decide) (by omega) (by simp only [Int.reducePow]; omega) (by omega) (by omega) (by simp only [Int.reducePow]; omega)]
    omega
  obtain ⟨E2, hE2⟩ : ∃ E, L / 4503599627370496 + H * 4096 % 18446744073709551616 = E := ⟨_, rfl⟩
  rw [hE2] at e2a e2
  have cD := (B.cell 16).trans (yC_get 17 _ 16 (by omega))
  rw [hDD] at cD
  have HCD : Hid ((yC 17 b)[16]? = some (.int .u8 (D : Int))) := by rw [← hDD]; exact yC_get 17 _ 16 (by omega)
  have wD : IntKind.u64.wrap (D : Int) = (D : Int) := by rw [IntKind.wrap_u64]; omega
  have wD2 : IntKind.u64.wrap ((D : Int) * 16777216) = (D : Int) * 16777216 := by rw [IntKind.wrap_u64]; omega
  have HBD : Hid (D ≤ 1) := hb1
  have hD1 : (D : Int) < 256 := by omega
  clear q0 q1 q2 q3 q4 hr hNN hN hLL hHH hDD hE2 hb hb1 cD hL hH
  go_enter Try.func67, Try.ntmps67
  go_wp2_with (with_reducible refine alloc_w rfl 110 rfl (.agg (vC 5 (fun _ => 0))) zeroRsd (vC 5 (fun _ => 0)) rfl ?_; intro rb w1 hrb BR k1)
  have B1 := B.chg k1 (by simp)
  clear B
  have hHeld : Blk w1.drew g (yC 17 b) T := B1.drew
  refine lt_begin (fun w' => Blk w' g (yC 17 b) T) (fun n => false) (by kernel_rfl) ?_
  refine lt_val (v := ?_) 0 (some 6) rfl (by kernel_rfl) (by kernel_rfl) (by kernel_rfl) (fun _ _ _ h => h) rfl rfl (fun w => ?_) ?_
  rotate_left
  · (go_simp; try with_reducible rfl)
  try simp only [Act.put, List.setIfInBounds_toArray, List.set_cons_zero, List.set_cons_succ]
  refine lt_val (v := ?_) 1 (some 7) rfl (by kernel_rfl) (by kernel_rfl) (by kernel_rfl) (fun _ _ _ h => h) rfl rfl (fun w => ?_) ?_
  rotate_left
  · (go_simp; try with_reducible rfl)
  try simp only [Act.put, List.setIfInBounds_toArray, List.set_cons_zero, List.set_cons_succ]
  refine lt_val (v := (.slice (some ⟨g, 0, none⟩) 17 17)) 2 (some 8) rfl (by kernel_rfl) (by kernel_rfl) (by kernel_rfl) (fun _ _ _ h => h) rfl rfl (fun w => ?_) ?_
  · (go_simp; try with_reducible rfl)
  try simp only [Act.put, List.setIfInBounds_toArray, List.set_cons_zero, List.set_cons_succ]
  refine lt_val (v := ?_) 4 (some 10) rfl (by kernel_rfl) (by kernel_rfl) (by kernel_rfl) (fun _ _ _ h => h) rfl rfl (fun w => ?_) ?_
  rotate_left
  · (go_simp; try with_reducible rfl)
  try simp only [Act.put, List.setIfInBounds_toArray, List.set_cons_zero, List.set_cons_succ]
  refine lt_val (v := ?_) 5 (some 11) rfl (by kernel_rfl) (by kernel_rfl) (by kernel_rfl) (fun _ _ _ h => h) rfl rfl (fun w => ?_) ?_
  rotate_left
  · (go_simp; try with_reducible rfl)
  try simp only [Act.put, List.setIfInBounds_toArray, List.set_cons_zero, List.set_cons_succ]
  refine lt_val (v := (.slice (some ⟨g, 8, none⟩) 9 9)) 6 (some 12) rfl (by kernel_rfl) (by kernel_rfl) (by kernel_rfl) (fun _ _ _ h => h) rfl rfl (fun w => ?_) ?_
  · (go_simp; try with_reducible rfl)
  try simp only [Act.put, List.setIfInBounds_toArray, List.set_cons_zero, List.set_cons_succ]
  refine lt_val (v := ?_) 8 (some 14) rfl (by kernel_rfl) (by kernel_rfl) (by kernel_rfl) (fun _ _ _ h => h) rfl rfl (fun w => ?_) ?_
  rotate_left
  · (go_simp; try with_reducible rfl)
  try simp only [Act.put, List.setIfInBounds_toArray, List.set_cons_zero, List.set_cons_succ]
  refine lt_val (v := ?_) 9 (some 15) rfl (by kernel_rfl) (by kernel_rfl) (by kernel_rfl) (fun _ _ _ h => h) rfl rfl (fun w => ?_) ?_
  rotate_left
  · (go_simp; try with_reducible rfl)
  try simp only [Act.put, List.setIfInBounds_toArray, List.set_cons_zero, List.set_cons_succ]
  refine lt_val (v := ?_) 10 (some 16) rfl (by kernel_rfl) (by kernel_rfl) (by kernel_rfl) (fun _ _ _ h => h) rfl rfl (fun w => ?_) ?_
  rotate_left
  · (go_simp; try with_reducible rfl)
  try simp only [Act.put, List.setIfInBounds_toArray, List.set_cons_zero, List.set_cons_succ]
  refine lt_read (v := ?_) 11 (some 17) rfl (by kernel_rfl) (by kernel_rfl) (by kernel_rfl) (by kernel_rfl) (fun _ _ _ h => h) rfl rfl (fun w hSw => ?_) hHeld ?_
  rotate_left
  · (have qa := (hSw.cell 16).trans HCD.out); (go_simp; try with_reducible rfl)
  try simp only [Act.put, List.setIfInBounds_toArray, List.set_cons_zero, List.set_cons_succ]
  refine lt_val (v := (.int .u64 (D : Int))) 12 (some 18) rfl (by kernel_rfl) (by kernel_rfl) (by kernel_rfl) (fun _ _ _ h => h) rfl rfl (fun w => ?_) ?_
  · (go_simp; try with_reducible rfl)
  try simp only [Act.put, List.setIfInBounds_toArray, List.set_cons_zero, List.set_cons_succ]
  refine lt_one 3 rfl (by kernel_rfl) rfl (fun K hK => ?_)
  go_simp
  refine (HC.out 1 w1 k1).mono ?_
  rintro e v1 ⟨rfl, m1, rfl⟩
  go_wp2_with fail
  refine hK.out _ _ (fun _ h => h) ?_
  clear hK K
  try simp only [Act.put, List.setIfInBounds_toArray, List.set_cons_zero, List.set_cons_succ]
  refine lt_one 7 rfl (by kernel_rfl) rfl (fun K hK => ?_)
  go_simp
  refine (HD.out (1 + m1) w1 k1).mono ?_
  rintro e v2 ⟨rfl, m2, rfl⟩
  go_wp2_with fail
  refine hK.out _ _ (fun _ h => h) ?_
  clear hK K
  try simp only [Act.put, List.setIfInBounds_toArray, List.set_cons_zero, List.set_cons_succ]
  refine lt_val (v := ?_) 13 (some 3) rfl (by kernel_rfl) (by kernel_rfl) (by kernel_rfl) (fun _ _ _ h => h) rfl rfl (fun w => ?_) ?_
  rotate_left
  · (go_simp; try with_reducible rfl)
  try simp only [Act.put, List.setIfInBounds_toArray, List.set_cons_zero, List.set_cons_succ]
  refine lt_val (v := ?_) 14 (some 4) rfl (by kernel_rfl) (by kernel_rfl) (by kernel_rfl) (fun _ _ _ h => h) rfl rfl (fun w => ?_) ?_
  rotate_left
  · (go_simp; try with_reducible rfl)
  try simp only [Act.put, List.setIfInBounds_toArray, List.set_cons_zero, List.set_cons_succ]
  refine lt_val (v := ?_) 15 (some 5) rfl (by kernel_rfl) (by kernel_rfl) (by kernel_rfl) (fun _ _ _ h => h) rfl rfl (fun w => ?_) ?_
  rotate_left
  · (go_simp; try with_reducible rfl)
  try simp only [Act.put, List.setIfInBounds_toArray, List.set_cons_zero, List.set_cons_succ]
  refine lt_done (by kernel_rfl) ?_ _
  obtain ⟨w2, hw2⟩ : ∃ z, z = w1.drewN (1 + m1 + m2) := ⟨_, rfl⟩
  have BR2 := BR.drewN (1 + m1 + m2)
  have K2 : Chg w w2 [] := by rw [hw2]; exact k1.drewN _
  rw [← hw2] at BR2 ⊢
  clear hw2 BR k1 B1
  go_wp2_with (first
    | (refine store_w BR2 rfl 110 (.tmp 2) (.tmp 38) (vC 5 r) rfl rfl rfl (by rw [vC_size]; exact rsdInfo) (by rw [vC_size, vC_size]) (vC_one 5 _) ?_; intro w3 BR3 k3)
    | (with_reducible refine wpList_build_c5 rfl 110 _ rfl (vC 5 r) ?_ ?_; exact builtR r))
  have C : Chg w w3 [] := K2.new k3 hrb
  exact bodyPost_ret (results_cell_row Try.results67 _ _ rb 110 (vC 5 r) (0, 0) _ rfl BR3 Try.underlying110 rfl (by rw [vC_size]; exact rsdInfo)) rfl ⟨rfl, C⟩
end Go.Proofs.Ytnopkojpgemldaa
