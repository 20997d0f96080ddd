/- rimeref12: low, turned, quarter. -/
import Derived.Test.YtachilkhbfpahaaSeE
set_option linter.unusedVariables false
set_option linter.unusedSimpArgs false
set_option linter.unnecessarySimpa false
namespace Go.Proofs.Ytachilkhbfpahaa
open Go.RowKit

set_option maxHeartbeats 4000000 in
set_option maxRecDepth 100000 in
theorem low4_any (g o n c : Nat) (b0 b1 b2 b3 : Int) (w : World) (hn : 4 ≤ n)
    (h0 : 0 ≤ b0 ∧ b0 < 256) (h1 : 0 ≤ b1 ∧ b1 < 256) (h2 : 0 ≤ b2 ∧ b2 < 256) (h3 : 0 ≤ b3 ∧ b3 < 256)
    (c0 : w.cell? ⟨g, o, none⟩ = some (.int .u8 b0)) (c1 : w.cell? ⟨g, o + 1, none⟩ = some (.int .u8 b1)) (c2 : w.cell? ⟨g, o + 2, none⟩ = some (.int .u8 b2)) (c3 : w.cell? ⟨g, o + 3, none⟩ = some (.int .u8 b3)) :
    Calls Try.prog 35 #[.slice (some ⟨g, o, none⟩) n c] w fun e w' => e = .returned (.int .u32 (b0 + b1 * 256 + b2 * 65536 + b3 * 16777216)) ∧ ∃ m, w' = w.drewN m := by
  obtain ⟨l0, u0⟩ := h0; obtain ⟨l1, u1⟩ := h1; obtain ⟨l2, u2⟩ := h2; obtain ⟨l3, u3⟩ := h3
  have q0 : (0 : Int) < (n : Int) := by omega
  have q1 : (1 : Int) < (n : Int) := by omega
  have q2 : (2 : Int) < (n : Int) := by omega
  have q3 : (3 : Int) < (n : Int) := by omega
  have m1 : bits .or .u32 (b0) (b1 * 256) = b0 + b1 * 256 := or_join3 8 _ _ (by decide) (by omega) (by simp only [Int.reducePow]; omega) (by omega) (by omega) (by simp only [Int.reducePow]; omega)
  have m2 : bits .or .u32 (b0 + b1 * 256) (b2 * 65536) = b0 + b1 * 256 + b2 * 65536 := or_join3 16 _ _ (by decide) (by omega) (by simp only [Int.reducePow]; omega) (by omega) (by omega) (by simp only [Int.reducePow]; omega)
  have m3 : bits .or .u32 (b0 + b1 * 256 + b2 * 65536) (b3 * 16777216) = b0 + b1 * 256 + b2 * 65536 + b3 * 16777216 := or_join3 24 _ _ (by decide) (by omega) (by simp only [Int.reducePow]; omega) (by omega) (by omega) (by simp only [Int.reducePow]; omega)
  go_enter Try.func35, Try.ntmps35
  go_wp2
  go_quiet (fail)
  go_wp2
  go_ret
  exact ⟨rfl, _, rfl⟩
theorem low4_r (g o n c : Nat) (b : Nat → Nat) (w : World) (hn : 4 ≤ n) (hb : ∀ i, i < 4 → b i < 256) (hc : ∀ i, i < 4 → w.cell? ⟨g, o + i, none⟩ = some (.int .u8 (b i))) :
    Calls Try.prog 35 #[.slice (some ⟨g, o, none⟩) n c] w fun e w' => e = .returned (.int .u32 (le4 b : Nat)) ∧ Chg w w' [] := by
  have B : ∀ i, i < 4 → 0 ≤ (b i : Int) ∧ (b i : Int) < 256 := fun i hi => by have := hb i hi; omega
  have h := low4_any g o n c (b 0) (b 1) (b 2) (b 3) w hn (B 0 (by omega)) (B 1 (by omega)) (B 2 (by omega)) (B 3 (by omega)) (hc 0 (by omega)) (hc 1 (by omega)) (hc 2 (by omega)) (hc 3 (by omega))
  have e : ((le4 b : Nat) : Int) = (b 0 : Int) + b 1 * 256 + b 2 * 65536 + b 3 * 16777216 := by unfold le4; omega
  rw [e]
  refine h.mono ?_
  rintro e w' ⟨rfl, m, rfl⟩
  exact ⟨rfl, (Chg.refl w []).drewN m⟩
theorem turned_16 (x : Nat) (hx : V x) (w : World) : Calls Try.prog 68 #[.int .u32 x, .int .u64 16] w fun e w' => e = .returned (.int .u32 (rl 16 x : Nat)) ∧ w' = w := by
  unfold V at hx
  have e2 : bits .or .u32 (IntKind.u32.wrap ((x : Int) * 65536)) ((x : Int) / 65536) = ((rl 16 x : Nat) : Int) := by
    rw [IntKind.wrap_u32]
    have h1 : ((x : Int) * 65536) % 4294967296 = ((x * 65536 % 4294967296 : Nat) : Int) := by omega
    have h2 : (x : Int) / 65536 = ((x / 65536 : Nat) : Int) := by omega
    rw [h1, h2, u32_or_nat _ _ (by omega) (by omega)]
    unfold rl
    rw [Nat.shiftLeft_eq, Nat.shiftRight_eq_div_pow]
  go_enter Try.func68, Try.ntmps68
  go_wp2
  go_ret
  exact ⟨by rw [← e2]; rfl, rfl⟩
theorem turned_12 (x : Nat) (hx : V x) (w : World) : Calls Try.prog 68 #[.int .u32 x, .int .u64 12] w fun e w' => e = .returned (.int .u32 (rl 12 x : Nat)) ∧ w' = w := by
  unfold V at hx
  have e2 : bits .or .u32 (IntKind.u32.wrap ((x : Int) * 4096)) ((x : Int) / 1048576) = ((rl 12 x : Nat) : Int) := by
    rw [IntKind.wrap_u32]
    have h1 : ((x : Int) * 4096) % 4294967296 = ((x * 4096 % 4294967296 : Nat) : Int) := by omega
    have h2 : (x : Int) / 1048576 = ((x / 1048576 : Nat) : Int) := by omega
    rw [h1, h2, u32_or_nat _ _ (by omega) (by omega)]
    unfold rl
    rw [Nat.shiftLeft_eq, Nat.shiftRight_eq_div_pow]
  go_enter Try.func68, Try.ntmps68
  go_wp2
  go_ret
  exact ⟨by rw [← e2]; rfl, rfl⟩
theorem turned_8 (x : Nat) (hx : V x) (w : World) : Calls Try.prog 68 #[.int .u32 x, .int .u64 8] w fun e w' => e = .returned (.int .u32 (rl 8 x : Nat)) ∧ w' = w := by
  unfold V at hx
  have e2 : bits .or .u32 (IntKind.u32.wrap ((x : Int) * 256)) ((x : Int) / 16777216) = ((rl 8 x : Nat) : Int) := by
    rw [IntKind.wrap_u32]
    have h1 : ((x : Int) * 256) % 4294967296 = ((x * 256 % 4294967296 : Nat) : Int) := by omega
    have h2 : (x : Int) / 16777216 = ((x / 16777216 : Nat) : Int) := by omega
    rw [h1, h2, u32_or_nat _ _ (by omega) (by omega)]
    unfold rl
    rw [Nat.shiftLeft_eq, Nat.shiftRight_eq_div_pow]
  go_enter Try.func68, Try.ntmps68
  go_wp2
  go_ret
  exact ⟨by rw [← e2]; rfl, rfl⟩
theorem turned_7 (x : Nat) (hx : V x) (w : World) : Calls Try.prog 68 #[.int .u32 x, .int .u64 7] w fun e w' => e = .returned (.int .u32 (rl 7 x : Nat)) ∧ w' = w := by
  unfold V at hx
  have e2 : bits .or .u32 (IntKind.u32.wrap ((x : Int) * 128)) ((x : Int) / 33554432) = ((rl 7 x : Nat) : Int) := by
    rw [IntKind.wrap_u32]
    have h1 : ((x : Int) * 128) % 4294967296 = ((x * 128 % 4294967296 : Nat) : Int) := by omega
    have h2 : (x : Int) / 33554432 = ((x / 33554432 : Nat) : Int) := by omega
    rw [h1, h2, u32_or_nat _ _ (by omega) (by omega)]
    unfold rl
    rw [Nat.shiftLeft_eq, Nat.shiftRight_eq_div_pow]
  go_enter Try.func68, Try.ntmps68
  go_wp2
  go_ret
  exact ⟨by rw [← e2]; rfl, rfl⟩
set_option maxHeartbeats 16000000 in
set_option maxRecDepth 100000 in
theorem quarter_r (g c0 : Nat) (s : Nat → Nat) (hs : V16 s) (a b c d : Nat) (ha : a < 16) (hb : b < 16) (hc : c < 16) (hd : d < 16) (hne : (¬ a = b ∧ ¬ a = c ∧ ¬ a = d) ∧ (¬ b = c ∧ ¬ b = d) ∧ ¬ c = d) (w : World) (B0 : Blk w g (tC 16 s) 24) :
    Calls Try.prog 36 #[.slice (some ⟨g, 0, none⟩) 16 c0, .int .i64 (a : Nat), .int .i64 (b : Nat), .int .i64 (c : Nat), .int .i64 (d : Nat)] w fun e w' => e = .returned (.tuple #[]) ∧ Blk w' g (tC 16 (qat s a b c d)) 24 ∧ Chg w w' [g] := by
  have HN : Hid ((¬ a = b ∧ ¬ a = c ∧ ¬ a = d) ∧ (¬ b = c ∧ ¬ b = d) ∧ ¬ c = d) := hne
  have HL : Hid (a < 16 ∧ b < 16 ∧ c < 16 ∧ d < 16) := ⟨ha, hb, hc, hd⟩
  have ia : (a : Int) < 16 := by omega
  have ib : (b : Int) < 16 := by omega
  have ic : (c : Int) < 16 := by omega
  have id : (d : Int) < 16 := by omega
  obtain ⟨A, hA⟩ : ∃ x, s a = x := ⟨_, rfl⟩
  obtain ⟨B, hB⟩ : ∃ x, s b = x := ⟨_, rfl⟩
  obtain ⟨C, hC⟩ : ∃ x, s c = x := ⟨_, rfl⟩
  obtain ⟨D, hD⟩ : ∃ x, s d = x := ⟨_, rfl⟩
  have va : V A := by rw [← hA]; exact hs _ ha
  have vb : V B := by rw [← hB]; exact hs _ hb
  have vc : V C := by rw [← hC]; exact hs _ hc
  have vd : V D := by rw [← hD]; exact hs _ hd
  obtain ⟨A1, hA1⟩ : ∃ x, q1 A B C D = x := ⟨_, rfl⟩
  obtain ⟨D1, hD1⟩ : ∃ x, q2 A B C D = x := ⟨_, rfl⟩
  obtain ⟨C1, hC1⟩ : ∃ x, q3 A B C D = x := ⟨_, rfl⟩
  obtain ⟨B1, hB1⟩ : ∃ x, q4 A B C D = x := ⟨_, rfl⟩
  obtain ⟨A2, hA2⟩ : ∃ x, q5 A B C D = x := ⟨_, rfl⟩
  obtain ⟨D2, hD2⟩ : ∃ x, q6 A B C D = x := ⟨_, rfl⟩
  obtain ⟨C2, hC2⟩ : ∃ x, q7 A B C D = x := ⟨_, rfl⟩
  obtain ⟨B2, hB2⟩ : ∃ x, q8 A B C D = x := ⟨_, rfl⟩
  have v1 : V A1 := by rw [← hA1]; exact q1_lt _ _ _ _
  have v2 : V D1 := by rw [← hD1]; exact q2_lt vd
  have v3 : V C1 := by rw [← hC1]; exact q3_lt _ _ _ _
  have v4 : V B1 := by rw [← hB1]; exact q4_lt vb
  have v5 : V A2 := by rw [← hA2]; exact q5_lt _ _ _ _
  have v6 : V D2 := by rw [← hD2]; exact q6_lt vd
  have v7 : V C2 := by rw [← hC2]; exact q7_lt _ _ _ _
  have v8 : V B2 := by rw [← hB2]; exact q8_lt vb
  have E1 : Hid (IntKind.u32.wrap ((A : Int) + (B : Int)) = (A1 : Int)) := by show IntKind.u32.wrap ((A : Int) + (B : Int)) = (A1 : Int); rw [w32, ← hA1]; rfl
  have X2 : Hid (bits .xor .u32 (D : Int) (A1 : Int) = ((D ^^^ A1 : Nat) : Int)) := u32_xor_nat _ _ vd v1
  have r2 : rl 16 (D ^^^ A1) = D1 := by rw [← hD1, ← hA1]; rfl
  have E3 : Hid (IntKind.u32.wrap ((C : Int) + (D1 : Int)) = (C1 : Int)) := by show IntKind.u32.wrap ((C : Int) + (D1 : Int)) = (C1 : Int); rw [w32, ← hC1, ← hD1]; rfl
  have X4 : Hid (bits .xor .u32 (B : Int) (C1 : Int) = ((B ^^^ C1 : Nat) : Int)) := u32_xor_nat _ _ vb v3
  have r4 : rl 12 (B ^^^ C1) = B1 := by rw [← hB1, ← hC1]; rfl
  have E5 : Hid (IntKind.u32.wrap ((A1 : Int) + (B1 : Int)) = (A2 : Int)) := by show IntKind.u32.wrap ((A1 : Int) + (B1 : Int)) = (A2 : Int); rw [w32, ← hA2, ← hA1, ← hB1]; rfl
  have X6 : Hid (bits .xor .u32 (D1 : Int) (A2 : Int) = ((D1 ^^^ A2 : Nat) : Int)) := u32_xor_nat _ _ v2 v5
  have r6 : rl 8 (D1 ^^^ A2) = D2 := by rw [← hD2, ← hD1, ← hA2]; rfl
  have E7 : Hid (IntKind.u32.wrap ((C1 : Int) + (D2 : Int)) = (C2 : Int)) := by show IntKind.u32.wrap ((C1 : Int) + (D2 : Int)) = (C2 : Int); rw [w32, ← hC2, ← hC1, ← hD2]; rfl
  have X8 : Hid (bits .xor .u32 (B1 : Int) (C2 : Int) = ((B1 ^^^ C2 : Nat) : Int)) := u32_xor_nat _ _ v4 v7
  have r8 : rl 7 (B1 ^^^ C2) = B2 := by rw [← hB2, ← hB1, ← hC2]; rfl
  have H2 : Hid (∀ w, Calls Try.prog 68 #[.int .u32 ((D ^^^ A1 : Nat) : Int), .int .u64 16] w fun e w' => e = .returned (.int .u32 (D1 : Int)) ∧ w' = w) := fun w => by have := turned_16 (D ^^^ A1) (xorV vd v1) w; rw [r2] at this; exact this
  have H4 : Hid (∀ w, Calls Try.prog 68 #[.int .u32 ((B ^^^ C1 : Nat) : Int), .int .u64 12] w fun e w' => e = .returned (.int .u32 (B1 : Int)) ∧ w' = w) := fun w => by have := turned_12 (B ^^^ C1) (xorV vb v3) w; rw [r4] at this; exact this
  have H6 : Hid (∀ w, Calls Try.prog 68 #[.int .u32 ((D1 ^^^ A2 : Nat) : Int), .int .u64 8] w fun e w' => e = .returned (.int .u32 (D2 : Int)) ∧ w' = w) := fun w => by have := turned_8 (D1 ^^^ A2) (xorV v2 v5) w; rw [r6] at this; exact this
  have H8 : Hid (∀ w, Calls Try.prog 68 #[.int .u32 ((B1 ^^^ C2 : Nat) : Int), .int .u64 7] w fun e w' => e = .returned (.int .u32 (B2 : Int)) ∧ w' = w) := fun w => by have := turned_7 (B1 ^^^ C2) (xorV v4 v7) w; rw [r8] at this; exact this
  have HEND : Hid (∀ j, j < 16 → up (up (up (up (up (up (up (up s a A1) d D1) c C1) b B1) a A2) d D2) c C2) b B2 j = qat s a b c d j) := fun j hj => by
    have hn := HN.out
    unfold qat
    rw [hA, hB, hC, hD, hA2, hB2, hC2, hD2]
    unfold up
    by_cases h1 : j = a
    · subst h1; simp [hn]
    · by_cases h2 : j = b
      · subst h2; simp [hn, h1]
      · by_cases h3 : j = c
        · subst h3; simp [hn, h1, h2]
        · by_cases h4 : j = d
          · subst h4; simp [h1, h2, h3]
          · simp [h1, h2, h3, h4]
  have HV : Hid (V A ∧ V B ∧ V C ∧ V D ∧ V A1 ∧ V B1 ∧ V C1 ∧ V D1 ∧ V A2 ∧ V B2 ∧ V C2 ∧ V D2) := ⟨va, vb, vc, vd, v1, v4, v3, v2, v5, v8, v7, v6⟩
  clear r2 r4 r6 r8 va vb vc vd v1 v2 v3 v4 v5 v6 v7 v8 hA1 hB1 hC1 hD1 hA2 hB2 hC2 hD2 hs ha hb hc hd hne
  have b0 := B0
  have k0 : Chg w w [g] := Chg.refl _ _
  have HW : Hid (∀ j, j < 16 → s j = s j) := fun _ _ => rfl
  clear HW B0
  go_enter Try.func36, Try.ntmps36
  go_wp2_with fail
  refine lt_begin (fun w' => Blk w' g (tC 16 s) 24) (fun n => n == 12) (by kernel_rfl) ?_
  replace k0 := k0.drew
  replace b0 := b0.drew
  obtain ⟨z0, hz⟩ : ∃ z, z = World.drew w := ⟨_, rfl⟩
  rw [← hz] at k0 b0 ⊢
  clear hz
  have hHeld := b0
  have cx := (b0.cell a).trans (tC_get 16 _ a HL.out.1)
  have fx := b0.frozen a
  have b1 := (b0.setCell a (.int .u32 (A1 : Nat))).to (tC_set 16 _ a A1)
  have k1 := k0.setIn (k := g) (by simp) a (.int .u32 (A1 : Nat))
  obtain ⟨s1, hs1⟩ : ∃ t, up s a A1 = t := ⟨_, rfl⟩
  rw [hs1] at b1 HEND
  refine lt_val (v := ?_) 0 (some 10) rfl (by kernel_rfl) (by kernel_rfl) (by kernel_rfl) (fun _ _ _ h => h) rfl rfl (fun w => ?_) ?_
  rotate_left
  · (go_simp; try with_reducible rfl)
  try simp only [Act.put, List.setIfInBounds_toArray, List.set_cons_zero, List.set_cons_succ]
  refine lt_val (v := ?_) 1 (some 11) rfl (by kernel_rfl) (by kernel_rfl) (by kernel_rfl) (fun _ _ _ h => h) rfl rfl (fun w => ?_) ?_
  rotate_left
  · (go_simp; try with_reducible rfl)
  try simp only [Act.put, List.setIfInBounds_toArray, List.set_cons_zero, List.set_cons_succ]
  refine lt_val (v := ?_) 2 (some 12) rfl (by kernel_rfl) (by kernel_rfl) (by kernel_rfl) (fun _ _ _ h => h) rfl rfl (fun w => ?_) ?_
  rotate_left
  · (go_simp; try with_reducible rfl)
  try simp only [Act.put, List.setIfInBounds_toArray, List.set_cons_zero, List.set_cons_succ]
  refine lt_val (v := ?_) 3 (some 13) rfl (by kernel_rfl) (by kernel_rfl) (by kernel_rfl) (fun _ _ _ h => h) rfl rfl (fun w => ?_) ?_
  rotate_left
  · (go_simp; try with_reducible rfl)
  try simp only [Act.put, List.setIfInBounds_toArray, List.set_cons_zero, List.set_cons_succ]
  refine lt_val (v := ?_) 4 (some 14) rfl (by kernel_rfl) (by kernel_rfl) (by kernel_rfl) (fun _ _ _ h => h) rfl rfl (fun w => ?_) ?_
  rotate_left
  · (go_simp; try with_reducible rfl)
  try simp only [Act.put, List.setIfInBounds_toArray, List.set_cons_zero, List.set_cons_succ]
  refine lt_read (v := (.int .u32 (A : Nat))) 5 (some 15) rfl (by kernel_rfl) (by kernel_rfl) (by kernel_rfl) (by kernel_rfl) (fun _ _ _ h => h) rfl rfl (fun w hSw => ?_) hHeld ?_
  · have hv := HV.out; unfold V at hv; have qx := (hSw.cell a).trans (tC_get 16 _ a HL.out.1); have qy := (hSw.cell b).trans (tC_get 16 _ b HL.out.2.1); rw [hA] at qx; rw [hB] at qy; (go_simp; try with_reducible rfl)
  try simp only [Act.put, List.setIfInBounds_toArray, List.set_cons_zero, List.set_cons_succ]
  refine lt_val (v := ?_) 6 (some 16) rfl (by kernel_rfl) (by kernel_rfl) (by kernel_rfl) (fun _ _ _ h => h) rfl rfl (fun w => ?_) ?_
  rotate_left
  · (go_simp; try with_reducible rfl)
  try simp only [Act.put, List.setIfInBounds_toArray, List.set_cons_zero, List.set_cons_succ]
  refine lt_val (v := ?_) 7 (some 17) rfl (by kernel_rfl) (by kernel_rfl) (by kernel_rfl) (fun _ _ _ h => h) rfl rfl (fun w => ?_) ?_
  rotate_left
  · (go_simp; try with_reducible rfl)
  try simp only [Act.put, List.setIfInBounds_toArray, List.set_cons_zero, List.set_cons_succ]
  refine lt_val (v := ?_) 8 (some 18) rfl (by kernel_rfl) (by kernel_rfl) (by kernel_rfl) (fun _ _ _ h => h) rfl rfl (fun w => ?_) ?_
  rotate_left
  · (go_simp; try with_reducible rfl)
  try simp only [Act.put, List.setIfInBounds_toArray, List.set_cons_zero, List.set_cons_succ]
  refine lt_read (v := (.int .u32 (B : Nat))) 9 (some 19) rfl (by kernel_rfl) (by kernel_rfl) (by kernel_rfl) (by kernel_rfl) (fun _ _ _ h => h) rfl rfl (fun w hSw => ?_) hHeld ?_
  · have hv := HV.out; unfold V at hv; have qx := (hSw.cell a).trans (tC_get 16 _ a HL.out.1); have qy := (hSw.cell b).trans (tC_get 16 _ b HL.out.2.1); rw [hA] at qx; rw [hB] at qy; (go_simp; try with_reducible rfl)
  try simp only [Act.put, List.setIfInBounds_toArray, List.set_cons_zero, List.set_cons_succ]
  refine lt_val (v := (.int .u32 (A1 : Nat))) 10 (some 20) rfl (by kernel_rfl) (by kernel_rfl) (by kernel_rfl) (fun _ _ _ h => h) rfl rfl (fun w => ?_) ?_
  · have hv := E1.out; (go_simp; try with_reducible rfl)
  try simp only [Act.put, List.setIfInBounds_toArray, List.set_cons_zero, List.set_cons_succ]
  refine lt_val (v := ?_) 11 (some 21) rfl (by kernel_rfl) (by kernel_rfl) (by kernel_rfl) (fun _ _ _ h => h) rfl rfl (fun w => ?_) ?_
  rotate_left
  · (go_simp; try with_reducible rfl)
  try simp only [Act.put, List.setIfInBounds_toArray, List.set_cons_zero, List.set_cons_succ]
  refine lt_one 12 rfl (by kernel_rfl) rfl (fun K hK => ?_)
  go_simp
  refine hK.out _ _ (fun h => absurd h (by decide)) ?_
  clear hK K
  try simp only [Act.put, List.setIfInBounds_toArray, List.set_cons_zero, List.set_cons_succ]
  refine lt_done (by kernel_rfl) ?_ _
  clear hHeld cx fx b0 k0
  obtain ⟨w1, hw⟩ : ∃ z, z = World.setCell z0 ⟨g, a, none⟩ (.int .u32 (A1 : Nat)) := ⟨_, rfl⟩
  rw [← hw] at b1 k1 ⊢
  clear hw
  have nhA : s1 a = A1 := by rw [← hs1]; unfold up; rw [if_pos rfl]
  have nhB : s1 b = B := by rw [← hs1]; unfold up; rw [if_neg (fun e => HN.out.1.1 e.symm)]; exact hB
  have nhC : s1 c = C := by rw [← hs1]; unfold up; rw [if_neg (fun e => HN.out.1.2.1 e.symm)]; exact hC
  have nhD : s1 d = D := by rw [← hs1]; unfold up; rw [if_neg (fun e => HN.out.1.2.2 e.symm)]; exact hD
  clear hA hB hC hD hs1
  have hA := nhA
  have hB := nhB
  have hC := nhC
  have hD := nhD
  clear nhA nhB nhC nhD
  go_wp2_with fail
  refine lt_begin (fun w' => Blk w' g (tC 16 s1) 24) (fun n => n == 13) (by kernel_rfl) ?_
  replace k1 := k1.drew
  replace b1 := b1.drew
  obtain ⟨z1, hz⟩ : ∃ z, z = World.drew w1 := ⟨_, rfl⟩
  rw [← hz] at k1 b1 ⊢
  clear hz
  have hHeld := b1
  have cx := (b1.cell d).trans (tC_get 16 _ d HL.out.2.2.2)
  have fx := b1.frozen d
  have b2 := (b1.setCell d (.int .u32 (D1 : Nat))).to (tC_set 16 _ d D1)
  have k2 := k1.setIn (k := g) (by simp) d (.int .u32 (D1 : Nat))
  obtain ⟨s2, hs2⟩ : ∃ t, up s1 d D1 = t := ⟨_, rfl⟩
  rw [hs2] at b2 HEND
  refine lt_val (v := ?_) 0 (some 22) rfl (by kernel_rfl) (by kernel_rfl) (by kernel_rfl) (fun _ _ _ h => h) rfl rfl (fun w => ?_) ?_
  rotate_left
  · (go_simp; try with_reducible rfl)
  try simp only [Act.put, List.setIfInBounds_toArray, List.set_cons_zero, List.set_cons_succ]
  refine lt_val (v := ?_) 1 (some 23) rfl (by kernel_rfl) (by kernel_rfl) (by kernel_rfl) (fun _ _ _ h => h) rfl rfl (fun w => ?_) ?_
  rotate_left
  · (go_simp; try with_reducible rfl)
  try simp only [Act.put, List.setIfInBounds_toArray, List.set_cons_zero, List.set_cons_succ]
  refine lt_val (v := ?_) 2 (some 24) rfl (by kernel_rfl) (by kernel_rfl) (by kernel_rfl) (fun _ _ _ h => h) rfl rfl (fun w => ?_) ?_
  rotate_left
  · (go_simp; try with_reducible rfl)
  try simp only [Act.put, List.setIfInBounds_toArray, List.set_cons_zero, List.set_cons_succ]
  refine lt_val (v := ?_) 3 (some 25) rfl (by kernel_rfl) (by kernel_rfl) (by kernel_rfl) (fun _ _ _ h => h) rfl rfl (fun w => ?_) ?_
  rotate_left
  · (go_simp; try with_reducible rfl)
  try simp only [Act.put, List.setIfInBounds_toArray, List.set_cons_zero, List.set_cons_succ]
  refine lt_val (v := ?_) 4 (some 26) rfl (by kernel_rfl) (by kernel_rfl) (by kernel_rfl) (fun _ _ _ h => h) rfl rfl (fun w => ?_) ?_
  rotate_left
  · (go_simp; try with_reducible rfl)
  try simp only [Act.put, List.setIfInBounds_toArray, List.set_cons_zero, List.set_cons_succ]
  refine lt_read (v := (.int .u32 (D : Nat))) 5 (some 27) rfl (by kernel_rfl) (by kernel_rfl) (by kernel_rfl) (by kernel_rfl) (fun _ _ _ h => h) rfl rfl (fun w hSw => ?_) hHeld ?_
  · have hv := HV.out; unfold V at hv; have qx := (hSw.cell d).trans (tC_get 16 _ d HL.out.2.2.2); have qy := (hSw.cell a).trans (tC_get 16 _ a HL.out.1); rw [hD] at qx; rw [hA] at qy; (go_simp; try with_reducible rfl)
  try simp only [Act.put, List.setIfInBounds_toArray, List.set_cons_zero, List.set_cons_succ]
  refine lt_val (v := ?_) 6 (some 28) rfl (by kernel_rfl) (by kernel_rfl) (by kernel_rfl) (fun _ _ _ h => h) rfl rfl (fun w => ?_) ?_
  rotate_left
  · (go_simp; try with_reducible rfl)
  try simp only [Act.put, List.setIfInBounds_toArray, List.set_cons_zero, List.set_cons_succ]
  refine lt_val (v := ?_) 7 (some 29) rfl (by kernel_rfl) (by kernel_rfl) (by kernel_rfl) (fun _ _ _ h => h) rfl rfl (fun w => ?_) ?_
  rotate_left
  · (go_simp; try with_reducible rfl)
  try simp only [Act.put, List.setIfInBounds_toArray, List.set_cons_zero, List.set_cons_succ]
  refine lt_val (v := ?_) 8 (some 30) rfl (by kernel_rfl) (by kernel_rfl) (by kernel_rfl) (fun _ _ _ h => h) rfl rfl (fun w => ?_) ?_
  rotate_left
  · (go_simp; try with_reducible rfl)
  try simp only [Act.put, List.setIfInBounds_toArray, List.set_cons_zero, List.set_cons_succ]
  refine lt_read (v := (.int .u32 (A1 : Nat))) 9 (some 31) rfl (by kernel_rfl) (by kernel_rfl) (by kernel_rfl) (by kernel_rfl) (fun _ _ _ h => h) rfl rfl (fun w hSw => ?_) hHeld ?_
  · have hv := HV.out; unfold V at hv; have qx := (hSw.cell d).trans (tC_get 16 _ d HL.out.2.2.2); have qy := (hSw.cell a).trans (tC_get 16 _ a HL.out.1); rw [hD] at qx; rw [hA] at qy; (go_simp; try with_reducible rfl)
  try simp only [Act.put, List.setIfInBounds_toArray, List.set_cons_zero, List.set_cons_succ]
  refine lt_val (v := (.int .u32 (D ^^^ A1 : Nat))) 10 (some 32) rfl (by kernel_rfl) (by kernel_rfl) (by kernel_rfl) (fun _ _ _ h => h) rfl rfl (fun w => ?_) ?_
  · have hv := X2.out; (go_simp; try with_reducible rfl)
  try simp only [Act.put, List.setIfInBounds_toArray, List.set_cons_zero, List.set_cons_succ]
  refine lt_one 11 rfl (by kernel_rfl) rfl (fun K hK => ?_)
  go_simp
  refine (H2.out z1).mono ?_
  rintro e wt ⟨rfl, rfl⟩
  go_wp2_with fail
  refine hK.out _ _ (fun _ h => h) ?_
  clear hK K
  try simp only [Act.put, List.setIfInBounds_toArray, List.set_cons_zero, List.set_cons_succ]
  refine lt_val (v := ?_) 12 (some 34) rfl (by kernel_rfl) (by kernel_rfl) (by kernel_rfl) (fun _ _ _ h => h) rfl rfl (fun w => ?_) ?_
  rotate_left
  · (go_simp; try with_reducible rfl)
  try simp only [Act.put, List.setIfInBounds_toArray, List.set_cons_zero, List.set_cons_succ]
  refine lt_one 13 rfl (by kernel_rfl) rfl (fun K hK => ?_)
  go_simp
  refine hK.out _ _ (fun h => absurd h (by decide)) ?_
  clear hK K
  try simp only [Act.put, List.setIfInBounds_toArray, List.set_cons_zero, List.set_cons_succ]
  refine lt_done (by kernel_rfl) ?_ _
  clear hHeld cx fx b1 k1
  obtain ⟨w2, hw⟩ : ∃ z, z = World.setCell wt ⟨g, d, none⟩ (.int .u32 (D1 : Nat)) := ⟨_, rfl⟩
  rw [← hw] at b2 k2 ⊢
  clear hw
  have nhA : s2 a = A1 := by rw [← hs2]; unfold up; rw [if_neg HN.out.1.2.2]; exact hA
  have nhB : s2 b = B := by rw [← hs2]; unfold up; rw [if_neg HN.out.2.1.2]; exact hB
  have nhC : s2 c = C := by rw [← hs2]; unfold up; rw [if_neg HN.out.2.2]; exact hC
  have nhD : s2 d = D1 := by rw [← hs2]; unfold up; rw [if_pos rfl]
  clear hA hB hC hD hs2
  have hA := nhA
  have hB := nhB
  have hC := nhC
  have hD := nhD
  clear nhA nhB nhC nhD
  go_wp2_with fail
  refine lt_begin (fun w' => Blk w' g (tC 16 s2) 24) (fun n => n == 12) (by kernel_rfl) ?_
  replace k2 := k2.drew
  replace b2 := b2.drew
  obtain ⟨z2, hz⟩ : ∃ z, z = World.drew w2 := ⟨_, rfl⟩
  rw [← hz] at k2 b2 ⊢
  clear hz
  have hHeld := b2
  have cx := (b2.cell c).trans (tC_get 16 _ c HL.out.2.2.1)
  have fx := b2.frozen c
  have b3 := (b2.setCell c (.int .u32 (C1 : Nat))).to (tC_set 16 _ c C1)
  have k3 := k2.setIn (k := g) (by simp) c (.int .u32 (C1 : Nat))
  obtain ⟨s3, hs3⟩ : ∃ t, up s2 c C1 = t := ⟨_, rfl⟩
  rw [hs3] at b3 HEND
  refine lt_val (v := ?_) 0 (some 35) rfl (by kernel_rfl) (by kernel_rfl) (by kernel_rfl) (fun _ _ _ h => h) rfl rfl (fun w => ?_) ?_
  rotate_left
  · (go_simp; try with_reducible rfl)
  try simp only [Act.put, List.setIfInBounds_toArray, List.set_cons_zero, List.set_cons_succ]
  refine lt_val (v := ?_) 1 (some 36) rfl (by kernel_rfl) (by kernel_rfl) (by kernel_rfl) (fun _ _ _ h => h) rfl rfl (fun w => ?_) ?_
  rotate_left
  · (go_simp; try with_reducible rfl)
  try simp only [Act.put, List.setIfInBounds_toArray, List.set_cons_zero, List.set_cons_succ]
  refine lt_val (v := ?_) 2 (some 37) rfl (by kernel_rfl) (by kernel_rfl) (by kernel_rfl) (fun _ _ _ h => h) rfl rfl (fun w => ?_) ?_
  rotate_left
  · (go_simp; try with_reducible rfl)
  try simp only [Act.put, List.setIfInBounds_toArray, List.set_cons_zero, List.set_cons_succ]
  refine lt_val (v := ?_) 3 (some 38) rfl (by kernel_rfl) (by kernel_rfl) (by kernel_rfl) (fun _ _ _ h => h) rfl rfl (fun w => ?_) ?_
  rotate_left
  · (go_simp; try with_reducible rfl)
  try simp only [Act.put, List.setIfInBounds_toArray, List.set_cons_zero, List.set_cons_succ]
  refine lt_val (v := ?_) 4 (some 39) rfl (by kernel_rfl) (by kernel_rfl) (by kernel_rfl) (fun _ _ _ h => h) rfl rfl (fun w => ?_) ?_
  rotate_left
  · (go_simp; try with_reducible rfl)
  try simp only [Act.put, List.setIfInBounds_toArray, List.set_cons_zero, List.set_cons_succ]
  refine lt_read (v := (.int .u32 (C : Nat))) 5 (some 40) rfl (by kernel_rfl) (by kernel_rfl) (by kernel_rfl) (by kernel_rfl) (fun _ _ _ h => h) rfl rfl (fun w hSw => ?_) hHeld ?_
  · have hv := HV.out; unfold V at hv; have qx := (hSw.cell c).trans (tC_get 16 _ c HL.out.2.2.1); have qy := (hSw.cell d).trans (tC_get 16 _ d HL.out.2.2.2); rw [hC] at qx; rw [hD] at qy; (go_simp; try with_reducible rfl)
  try simp only [Act.put, List.setIfInBounds_toArray, List.set_cons_zero, List.set_cons_succ]
  refine lt_val (v := ?_) 6 (some 41) rfl (by kernel_rfl) (by kernel_rfl) (by kernel_rfl) (fun _ _ _ h => h) rfl rfl (fun w => ?_) ?_
  rotate_left
  · (go_simp; try with_reducible rfl)
  try simp only [Act.put, List.setIfInBounds_toArray, List.set_cons_zero, List.set_cons_succ]
  refine lt_val (v := ?_) 7 (some 42) rfl (by kernel_rfl) (by kernel_rfl) (by kernel_rfl) (fun _ _ _ h => h) rfl rfl (fun w => ?_) ?_
  rotate_left
  · (go_simp; try with_reducible rfl)
  try simp only [Act.put, List.setIfInBounds_toArray, List.set_cons_zero, List.set_cons_succ]
  refine lt_val (v := ?_) 8 (some 43) rfl (by kernel_rfl) (by kernel_rfl) (by kernel_rfl) (fun _ _ _ h => h) rfl rfl (fun w => ?_) ?_
  rotate_left
  · (go_simp; try with_reducible rfl)
  try simp only [Act.put, List.setIfInBounds_toArray, List.set_cons_zero, List.set_cons_succ]
  refine lt_read (v := (.int .u32 (D1 : Nat))) 9 (some 44) rfl (by kernel_rfl) (by kernel_rfl) (by kernel_rfl) (by kernel_rfl) (fun _ _ _ h => h) rfl rfl (fun w hSw => ?_) hHeld ?_
  · have hv := HV.out; unfold V at hv; have qx := (hSw.cell c).trans (tC_get 16 _ c HL.out.2.2.1); have qy := (hSw.cell d).trans (tC_get 16 _ d HL.out.2.2.2); rw [hC] at qx; rw [hD] at qy; (go_simp; try with_reducible rfl)
  try simp only [Act.put, List.setIfInBounds_toArray, List.set_cons_zero, List.set_cons_succ]
  refine lt_val (v := (.int .u32 (C1 : Nat))) 10 (some 45) rfl (by kernel_rfl) (by kernel_rfl) (by kernel_rfl) (fun _ _ _ h => h) rfl rfl (fun w => ?_) ?_
  · have hv := E3.out; (go_simp; try with_reducible rfl)
  try simp only [Act.put, List.setIfInBounds_toArray, List.set_cons_zero, List.set_cons_succ]
  refine lt_val (v := ?_) 11 (some 46) rfl (by kernel_rfl) (by kernel_rfl) (by kernel_rfl) (fun _ _ _ h => h) rfl rfl (fun w => ?_) ?_
  rotate_left
  · (go_simp; try with_reducible rfl)
  try simp only [Act.put, List.setIfInBounds_toArray, List.set_cons_zero, List.set_cons_succ]
  refine lt_one 12 rfl (by kernel_rfl) rfl (fun K hK => ?_)
  go_simp
  refine hK.out _ _ (fun h => absurd h (by decide)) ?_
  clear hK K
  try simp only [Act.put, List.setIfInBounds_toArray, List.set_cons_zero, List.set_cons_succ]
  refine lt_done (by kernel_rfl) ?_ _
  clear hHeld cx fx b2 k2
  obtain ⟨w3, hw⟩ : ∃ z, z = World.setCell z2 ⟨g, c, none⟩ (.int .u32 (C1 : Nat)) := ⟨_, rfl⟩
  rw [← hw] at b3 k3 ⊢
  clear hw
  have nhA : s3 a = A1 := by rw [← hs3]; unfold up; rw [if_neg HN.out.1.2.1]; exact hA
  have nhB : s3 b = B := by rw [← hs3]; unfold up; rw [if_neg HN.out.2.1.1]; exact hB
  have nhC : s3 c = C1 := by rw [← hs3]; unfold up; rw [if_pos rfl]
  have nhD : s3 d = D1 := by rw [← hs3]; unfold up; rw [if_neg (fun e => HN.out.2.2 e.symm)]; exact hD
  clear hA hB hC hD hs3
  have hA := nhA
  have hB := nhB
  have hC := nhC
  have hD := nhD
  clear nhA nhB nhC nhD
  go_wp2_with fail
  refine lt_begin (fun w' => Blk w' g (tC 16 s3) 24) (fun n => n == 13) (by kernel_rfl) ?_
  replace k3 := k3.drew
  replace b3 := b3.drew
  obtain ⟨z3, hz⟩ : ∃ z, z = World.drew w3 := ⟨_, rfl⟩
  rw [← hz] at k3 b3 ⊢
  clear hz
  have hHeld := b3
  have cx := (b3.cell b).trans (tC_get 16 _ b HL.out.2.1)
  have fx := b3.frozen b
  have b4 := (b3.setCell b (.int .u32 (B1 : Nat))).to (tC_set 16 _ b B1)
  have k4 := k3.setIn (k := g) (by simp) b (.int .u32 (B1 : Nat))
  obtain ⟨s4, hs4⟩ : ∃ t, up s3 b B1 = t := ⟨_, rfl⟩
  rw [hs4] at b4 HEND
  refine lt_val (v := ?_) 0 (some 47) rfl (by kernel_rfl) (by kernel_rfl) (by kernel_rfl) (fun _ _ _ h => h) rfl rfl (fun w => ?_) ?_
  rotate_left
  · (go_simp; try with_reducible rfl)
  try simp only [Act.put, List.setIfInBounds_toArray, List.set_cons_zero, List.set_cons_succ]
  refine lt_val (v := ?_) 1 (some 48) rfl (by kernel_rfl) (by kernel_rfl) (by kernel_rfl) (fun _ _ _ h => h) rfl rfl (fun w => ?_) ?_
  rotate_left
  · (go_simp; try with_reducible rfl)
  try simp only [Act.put, List.setIfInBounds_toArray, List.set_cons_zero, List.set_cons_succ]
  refine lt_val (v := ?_) 2 (some 49) rfl (by kernel_rfl) (by kernel_rfl) (by kernel_rfl) (fun _ _ _ h => h) rfl rfl (fun w => ?_) ?_
  rotate_left
  · (go_simp; try with_reducible rfl)
  try simp only [Act.put, List.setIfInBounds_toArray, List.set_cons_zero, List.set_cons_succ]
  refine lt_val (v := ?_) 3 (some 50) rfl (by kernel_rfl) (by kernel_rfl) (by kernel_rfl) (fun _ _ _ h => h) rfl rfl (fun w => ?_) ?_
  rotate_left
  · (go_simp; try with_reducible rfl)
  try simp only [Act.put, List.setIfInBounds_toArray, List.set_cons_zero, List.set_cons_succ]
  refine lt_val (v := ?_) 4 (some 51) rfl (by kernel_rfl) (by kernel_rfl) (by kernel_rfl) (fun _ _ _ h => h) rfl rfl (fun w => ?_) ?_
  rotate_left
  · (go_simp; try with_reducible rfl)
  try simp only [Act.put, List.setIfInBounds_toArray, List.set_cons_zero, List.set_cons_succ]
  refine lt_read (v := (.int .u32 (B : Nat))) 5 (some 52) rfl (by kernel_rfl) (by kernel_rfl) (by kernel_rfl) (by kernel_rfl) (fun _ _ _ h => h) rfl rfl (fun w hSw => ?_) hHeld ?_
  · have hv := HV.out; unfold V at hv; have qx := (hSw.cell b).trans (tC_get 16 _ b HL.out.2.1); have qy := (hSw.cell c).trans (tC_get 16 _ c HL.out.2.2.1); rw [hB] at qx; rw [hC] at qy; (go_simp; try with_reducible rfl)
  try simp only [Act.put, List.setIfInBounds_toArray, List.set_cons_zero, List.set_cons_succ]
  refine lt_val (v := ?_) 6 (some 53) rfl (by kernel_rfl) (by kernel_rfl) (by kernel_rfl) (fun _ _ _ h => h) rfl rfl (fun w => ?_) ?_
  rotate_left
  · (go_simp; try with_reducible rfl)
  try simp only [Act.put, List.setIfInBounds_toArray, List.set_cons_zero, List.set_cons_succ]
  refine lt_val (v := ?_) 7 (some 54) rfl (by kernel_rfl) (by kernel_rfl) (by kernel_rfl) (fun _ _ _ h => h) rfl rfl (fun w => ?_) ?_
  rotate_left
  · (go_simp; try with_reducible rfl)
  try simp only [Act.put, List.setIfInBounds_toArray, List.set_cons_zero, List.set_cons_succ]
  refine lt_val (v := ?_) 8 (some 55) rfl (by kernel_rfl) (by kernel_rfl) (by kernel_rfl) (fun _ _ _ h => h) rfl rfl (fun w => ?_) ?_
  rotate_left
  · (go_simp; try with_reducible rfl)
  try simp only [Act.put, List.setIfInBounds_toArray, List.set_cons_zero, List.set_cons_succ]
  refine lt_read (v := (.int .u32 (C1 : Nat))) 9 (some 56) rfl (by kernel_rfl) (by kernel_rfl) (by kernel_rfl) (by kernel_rfl) (fun _ _ _ h => h) rfl rfl (fun w hSw => ?_) hHeld ?_
  · have hv := HV.out; unfold V at hv; have qx := (hSw.cell b).trans (tC_get 16 _ b HL.out.2.1); have qy := (hSw.cell c).trans (tC_get 16 _ c HL.out.2.2.1); rw [hB] at qx; rw [hC] at qy; (go_simp; try with_reducible rfl)
  try simp only [Act.put, List.setIfInBounds_toArray, List.set_cons_zero, List.set_cons_succ]
  refine lt_val (v := (.int .u32 (B ^^^ C1 : Nat))) 10 (some 57) rfl (by kernel_rfl) (by kernel_rfl) (by kernel_rfl) (fun _ _ _ h => h) rfl rfl (fun w => ?_) ?_
  · have hv := X4.out; (go_simp; try with_reducible rfl)
  try simp only [Act.put, List.setIfInBounds_toArray, List.set_cons_zero, List.set_cons_succ]
  refine lt_one 11 rfl (by kernel_rfl) rfl (fun K hK => ?_)
  go_simp
  refine (H4.out z3).mono ?_
  rintro e wt ⟨rfl, rfl⟩
  go_wp2_with fail
  refine hK.out _ _ (fun _ h => h) ?_
  clear hK K
  try simp only [Act.put, List.setIfInBounds_toArray, List.set_cons_zero, List.set_cons_succ]
  refine lt_val (v := ?_) 12 (some 59) rfl (by kernel_rfl) (by kernel_rfl) (by kernel_rfl) (fun _ _ _ h => h) rfl rfl (fun w => ?_) ?_
  rotate_left
  · (go_simp; try with_reducible rfl)
  try simp only [Act.put, List.setIfInBounds_toArray, List.set_cons_zero, List.set_cons_succ]
  refine lt_one 13 rfl (by kernel_rfl) rfl (fun K hK => ?_)
  go_simp
  refine hK.out _ _ (fun h => absurd h (by decide)) ?_
  clear hK K
  try simp only [Act.put, List.setIfInBounds_toArray, List.set_cons_zero, List.set_cons_succ]
  refine lt_done (by kernel_rfl) ?_ _
  clear hHeld cx fx b3 k3
  obtain ⟨w4, hw⟩ : ∃ z, z = World.setCell wt ⟨g, b, none⟩ (.int .u32 (B1 : Nat)) := ⟨_, rfl⟩
  rw [← hw] at b4 k4 ⊢
  clear hw
  have nhA : s4 a = A1 := by rw [← hs4]; unfold up; rw [if_neg HN.out.1.1]; exact hA
  have nhB : s4 b = B1 := by rw [← hs4]; unfold up; rw [if_pos rfl]
  have nhC : s4 c = C1 := by rw [← hs4]; unfold up; rw [if_neg (fun e => HN.out.2.1.1 e.symm)]; exact hC
  have nhD : s4 d = D1 := by rw [← hs4]; unfold up; rw [if_neg (fun e => HN.out.2.1.2 e.symm)]; exact hD
  clear hA hB hC hD hs4
  have hA := nhA
  have hB := nhB
  have hC := nhC
  have hD := nhD
  clear nhA nhB nhC nhD
  go_wp2_with fail
  refine lt_begin (fun w' => Blk w' g (tC 16 s4) 24) (fun n => n == 12) (by kernel_rfl) ?_
  replace k4 := k4.drew
  replace b4 := b4.drew
  obtain ⟨z4, hz⟩ : ∃ z, z = World.drew w4 := ⟨_, rfl⟩
  rw [← hz] at k4 b4 ⊢
  clear hz
  have hHeld := b4
  have cx := (b4.cell a).trans (tC_get 16 _ a HL.out.1)
  have fx := b4.frozen a
  have b5 := (b4.setCell a (.int .u32 (A2 : Nat))).to (tC_set 16 _ a A2)
  have k5 := k4.setIn (k := g) (by simp) a (.int .u32 (A2 : Nat))
  obtain ⟨s5, hs5⟩ : ∃ t, up s4 a A2 = t := ⟨_, rfl⟩
  rw [hs5] at b5 HEND
  refine lt_val (v := ?_) 0 (some 60) rfl (by kernel_rfl) (by kernel_rfl) (by kernel_rfl) (fun _ _ _ h => h) rfl rfl (fun w => ?_) ?_
  rotate_left
  · (go_simp; try with_reducible rfl)
  try simp only [Act.put, List.setIfInBounds_toArray, List.set_cons_zero, List.set_cons_succ]
  refine lt_val (v := ?_) 1 (some 61) rfl (by kernel_rfl) (by kernel_rfl) (by kernel_rfl) (fun _ _ _ h => h) rfl rfl (fun w => ?_) ?_
  rotate_left
  · (go_simp; try with_reducible rfl)
  try simp only [Act.put, List.setIfInBounds_toArray, List.set_cons_zero, List.set_cons_succ]
  refine lt_val (v := ?_) 2 (some 62) rfl (by kernel_rfl) (by kernel_rfl) (by kernel_rfl) (fun _ _ _ h => h) rfl rfl (fun w => ?_) ?_
  rotate_left
  · (go_simp; try with_reducible rfl)
  try simp only [Act.put, List.setIfInBounds_toArray, List.set_cons_zero, List.set_cons_succ]
  refine lt_val (v := ?_) 3 (some 63) rfl (by kernel_rfl) (by kernel_rfl) (by kernel_rfl) (fun _ _ _ h => h) rfl rfl (fun w => ?_) ?_
  rotate_left
  · (go_simp; try with_reducible rfl)
  try simp only [Act.put, List.setIfInBounds_toArray, List.set_cons_zero, List.set_cons_succ]
  refine lt_val (v := ?_) 4 (some 64) rfl (by kernel_rfl) (by kernel_rfl) (by kernel_rfl) (fun _ _ _ h => h) rfl rfl (fun w => ?_) ?_
  rotate_left
  · (go_simp; try with_reducible rfl)
  try simp only [Act.put, List.setIfInBounds_toArray, List.set_cons_zero, List.set_cons_succ]
  refine lt_read (v := (.int .u32 (A1 : Nat))) 5 (some 65) rfl (by kernel_rfl) (by kernel_rfl) (by kernel_rfl) (by kernel_rfl) (fun _ _ _ h => h) rfl rfl (fun w hSw => ?_) hHeld ?_
  · have hv := HV.out; unfold V at hv; have qx := (hSw.cell a).trans (tC_get 16 _ a HL.out.1); have qy := (hSw.cell b).trans (tC_get 16 _ b HL.out.2.1); rw [hA] at qx; rw [hB] at qy; (go_simp; try with_reducible rfl)
  try simp only [Act.put, List.setIfInBounds_toArray, List.set_cons_zero, List.set_cons_succ]
  refine lt_val (v := ?_) 6 (some 66) rfl (by kernel_rfl) (by kernel_rfl) (by kernel_rfl) (fun _ _ _ h => h) rfl rfl (fun w => ?_) ?_
  rotate_left
  · (go_simp; try with_reducible rfl)
  try simp only [Act.put, List.setIfInBounds_toArray, List.set_cons_zero, List.set_cons_succ]
  refine lt_val (v := ?_) 7 (some 67) rfl (by kernel_rfl) (by kernel_rfl) (by kernel_rfl) (fun _ _ _ h => h) rfl rfl (fun w => ?_) ?_
  rotate_left
  · (go_simp; try with_reducible rfl)
  try simp only [Act.put, List.setIfInBounds_toArray, List.set_cons_zero, List.set_cons_succ]
  refine lt_val (v := ?_) 8 (some 68) rfl (by kernel_rfl) (by kernel_rfl) (by kernel_rfl) (fun _ _ _ h => h) rfl rfl (fun w => ?_) ?_
  rotate_left
  · (go_simp; try with_reducible rfl)
  try simp only [Act.put, List.setIfInBounds_toArray, List.set_cons_zero, List.set_cons_succ]
  refine lt_read (v := (.int .u32 (B1 : Nat))) 9 (some 69) rfl (by kernel_rfl) (by kernel_rfl) (by kernel_rfl) (by kernel_rfl) (fun _ _ _ h => h) rfl rfl (fun w hSw => ?_) hHeld ?_
  · have hv := HV.out; unfold V at hv; have qx := (hSw.cell a).trans (tC_get 16 _ a HL.out.1); have qy := (hSw.cell b).trans (tC_get 16 _ b HL.out.2.1); rw [hA] at qx; rw [hB] at qy; (go_simp; try with_reducible rfl)
  try simp only [Act.put, List.setIfInBounds_toArray, List.set_cons_zero, List.set_cons_succ]
  refine lt_val (v := (.int .u32 (A2 : Nat))) 10 (some 70) rfl (by kernel_rfl) (by kernel_rfl) (by kernel_rfl) (fun _ _ _ h => h) rfl rfl (fun w => ?_) ?_
  · have hv := E5.out; (go_simp; try with_reducible rfl)
  try simp only [Act.put, List.setIfInBounds_toArray, List.set_cons_zero, List.set_cons_succ]
  refine lt_val (v := ?_) 11 (some 71) rfl (by kernel_rfl) (by kernel_rfl) (by kernel_rfl) (fun _ _ _ h => h) rfl rfl (fun w => ?_) ?_
  rotate_left
  · (go_simp; try with_reducible rfl)
  try simp only [Act.put, List.setIfInBounds_toArray, List.set_cons_zero, List.set_cons_succ]
  refine lt_one 12 rfl (by kernel_rfl) rfl (fun K hK => ?_)
  go_simp
  refine hK.out _ _ (fun h => absurd h (by decide)) ?_
  clear hK K
  try simp only [Act.put, List.setIfInBounds_toArray, List.set_cons_zero, List.set_cons_succ]
  refine lt_done (by kernel_rfl) ?_ _
  clear hHeld cx fx b4 k4
  obtain ⟨w5, hw⟩ : ∃ z, z = World.setCell z4 ⟨g, a, none⟩ (.int .u32 (A2 : Nat)) := ⟨_, rfl⟩
  rw [← hw] at b5 k5 ⊢
  clear hw
  have nhA : s5 a = A2 := by rw [← hs5]; unfold up; rw [if_pos rfl]
  have nhB : s5 b = B1 := by rw [← hs5]; unfold up; rw [if_neg (fun e => HN.out.1.1 e.symm)]; exact hB
  have nhC : s5 c = C1 := by rw [← hs5]; unfold up; rw [if_neg (fun e => HN.out.1.2.1 e.symm)]; exact hC
  have nhD : s5 d = D1 := by rw [← hs5]; unfold up; rw [if_neg (fun e => HN.out.1.2.2 e.symm)]; exact hD
  clear hA hB hC hD hs5
  have hA := nhA
  have hB := nhB
  have hC := nhC
  have hD := nhD
  clear nhA nhB nhC nhD
  go_wp2_with fail
  refine lt_begin (fun w' => Blk w' g (tC 16 s5) 24) (fun n => n == 13) (by kernel_rfl) ?_
  replace k5 := k5.drew
  replace b5 := b5.drew
  obtain ⟨z5, hz⟩ : ∃ z, z = World.drew w5 := ⟨_, rfl⟩
  rw [← hz] at k5 b5 ⊢
  clear hz
  have hHeld := b5
  have cx := (b5.cell d).trans (tC_get 16 _ d HL.out.2.2.2)
  have fx := b5.frozen d
  have b6 := (b5.setCell d (.int .u32 (D2 : Nat))).to (tC_set 16 _ d D2)
  have k6 := k5.setIn (k := g) (by simp) d (.int .u32 (D2 : Nat))
  obtain ⟨s6, hs6⟩ : ∃ t, up s5 d D2 = t := ⟨_, rfl⟩
  rw [hs6] at b6 HEND
  refine lt_val (v := ?_) 0 (some 72) rfl (by kernel_rfl) (by kernel_rfl) (by kernel_rfl) (fun _ _ _ h => h) rfl rfl (fun w => ?_) ?_
  rotate_left
  · (go_simp; try with_reducible rfl)
  try simp only [Act.put, List.setIfInBounds_toArray, List.set_cons_zero, List.set_cons_succ]
  refine lt_val (v := ?_) 1 (some 73) rfl (by kernel_rfl) (by kernel_rfl) (by kernel_rfl) (fun _ _ _ h => h) rfl rfl (fun w => ?_) ?_
  rotate_left
  · (go_simp; try with_reducible rfl)
  try simp only [Act.put, List.setIfInBounds_toArray, List.set_cons_zero, List.set_cons_succ]
  refine lt_val (v := ?_) 2 (some 74) rfl (by kernel_rfl) (by kernel_rfl) (by kernel_rfl) (fun _ _ _ h => h) rfl rfl (fun w => ?_) ?_
  rotate_left
  · (go_simp; try with_reducible rfl)
  try simp only [Act.put, List.setIfInBounds_toArray, List.set_cons_zero, List.set_cons_succ]
  refine lt_val (v := ?_) 3 (some 75) rfl (by kernel_rfl) (by kernel_rfl) (by kernel_rfl) (fun _ _ _ h => h) rfl rfl (fun w => ?_) ?_
  rotate_left
  · (go_simp; try with_reducible rfl)
  try simp only [Act.put, List.setIfInBounds_toArray, List.set_cons_zero, List.set_cons_succ]
  refine lt_val (v := ?_) 4 (some 76) rfl (by kernel_rfl) (by kernel_rfl) (by kernel_rfl) (fun _ _ _ h => h) rfl rfl (fun w => ?_) ?_
  rotate_left
  · (go_simp; try with_reducible rfl)
  try simp only [Act.put, List.setIfInBounds_toArray, List.set_cons_zero, List.set_cons_succ]
  refine lt_read (v := (.int .u32 (D1 : Nat))) 5 (some 77) rfl (by kernel_rfl) (by kernel_rfl) (by kernel_rfl) (by kernel_rfl) (fun _ _ _ h => h) rfl rfl (fun w hSw => ?_) hHeld ?_
  · have hv := HV.out; unfold V at hv; have qx := (hSw.cell d).trans (tC_get 16 _ d HL.out.2.2.2); have qy := (hSw.cell a).trans (tC_get 16 _ a HL.out.1); rw [hD] at qx; rw [hA] at qy; (go_simp; try with_reducible rfl)
  try simp only [Act.put, List.setIfInBounds_toArray, List.set_cons_zero, List.set_cons_succ]
  refine lt_val (v := ?_) 6 (some 78) rfl (by kernel_rfl) (by kernel_rfl) (by kernel_rfl) (fun _ _ _ h => h) rfl rfl (fun w => ?_) ?_
  rotate_left
  · (go_simp; try with_reducible rfl)
  try simp only [Act.put, List.setIfInBounds_toArray, List.set_cons_zero, List.set_cons_succ]
  refine lt_val (v := ?_) 7 (some 79) rfl (by kernel_rfl) (by kernel_rfl) (by kernel_rfl) (fun _ _ _ h => h) rfl rfl (fun w => ?_) ?_
  rotate_left
  · (go_simp; try with_reducible rfl)
  try simp only [Act.put, List.setIfInBounds_toArray, List.set_cons_zero, List.set_cons_succ]
  refine lt_val (v := ?_) 8 (some 80) rfl (by kernel_rfl) (by kernel_rfl) (by kernel_rfl) (fun _ _ _ h => h) rfl rfl (fun w => ?_) ?_
  rotate_left
  · (go_simp; try with_reducible rfl)
  try simp only [Act.put, List.setIfInBounds_toArray, List.set_cons_zero, List.set_cons_succ]
  refine lt_read (v := (.int .u32 (A2 : Nat))) 9 (some 81) rfl (by kernel_rfl) (by kernel_rfl) (by kernel_rfl) (by kernel_rfl) (fun _ _ _ h => h) rfl rfl (fun w hSw => ?_) hHeld ?_
  · have hv := HV.out; unfold V at hv; have qx := (hSw.cell d).trans (tC_get 16 _ d HL.out.2.2.2); have qy := (hSw.cell a).trans (tC_get 16 _ a HL.out.1); rw [hD] at qx; rw [hA] at qy; (go_simp; try with_reducible rfl)
  try simp only [Act.put, List.setIfInBounds_toArray, List.set_cons_zero, List.set_cons_succ]
  refine lt_val (v := (.int .u32 (D1 ^^^ A2 : Nat))) 10 (some 82) rfl (by kernel_rfl) (by kernel_rfl) (by kernel_rfl) (fun _ _ _ h => h) rfl rfl (fun w => ?_) ?_
  · have hv := X6.out; (go_simp; try with_reducible rfl)
  try simp only [Act.put, List.setIfInBounds_toArray, List.set_cons_zero, List.set_cons_succ]
  refine lt_one 11 rfl (by kernel_rfl) rfl (fun K hK => ?_)
  go_simp
  refine (H6.out z5).mono ?_
  rintro e wt ⟨rfl, rfl⟩
  go_wp2_with fail
  refine hK.out _ _ (fun _ h => h) ?_
  clear hK K
  try simp only [Act.put, List.setIfInBounds_toArray, List.set_cons_zero, List.set_cons_succ]
  refine lt_val (v := ?_) 12 (some 84) rfl (by kernel_rfl) (by kernel_rfl) (by kernel_rfl) (fun _ _ _ h => h) rfl rfl (fun w => ?_) ?_
  rotate_left
  · (go_simp; try with_reducible rfl)
  try simp only [Act.put, List.setIfInBounds_toArray, List.set_cons_zero, List.set_cons_succ]
  refine lt_one 13 rfl (by kernel_rfl) rfl (fun K hK => ?_)
  go_simp
  refine hK.out _ _ (fun h => absurd h (by decide)) ?_
  clear hK K
  try simp only [Act.put, List.setIfInBounds_toArray, List.set_cons_zero, List.set_cons_succ]
  refine lt_done (by kernel_rfl) ?_ _
  clear hHeld cx fx b5 k5
  obtain ⟨w6, hw⟩ : ∃ z, z = World.setCell wt ⟨g, d, none⟩ (.int .u32 (D2 : Nat)) := ⟨_, rfl⟩
  rw [← hw] at b6 k6 ⊢
  clear hw
  have nhA : s6 a = A2 := by rw [← hs6]; unfold up; rw [if_neg HN.out.1.2.2]; exact hA
  have nhB : s6 b = B1 := by rw [← hs6]; unfold up; rw [if_neg HN.out.2.1.2]; exact hB
  have nhC : s6 c = C1 := by rw [← hs6]; unfold up; rw [if_neg HN.out.2.2]; exact hC
  have nhD : s6 d = D2 := by rw [← hs6]; unfold up; rw [if_pos rfl]
  clear hA hB hC hD hs6
  have hA := nhA
  have hB := nhB
  have hC := nhC
  have hD := nhD
  clear nhA nhB nhC nhD
  go_wp2_with fail
  refine lt_begin (fun w' => Blk w' g (tC 16 s6) 24) (fun n => n == 12) (by kernel_rfl) ?_
  replace k6 := k6.drew
  replace b6 := b6.drew
  obtain ⟨z6, hz⟩ : ∃ z, z = World.drew w6 := ⟨_, rfl⟩
  rw [← hz] at k6 b6 ⊢
  clear hz
  have hHeld := b6
  have cx := (b6.cell c).trans (tC_get 16 _ c HL.out.2.2.1)
  have fx := b6.frozen c
  have b7 := (b6.setCell c (.int .u32 (C2 : Nat))).to (tC_set 16 _ c C2)
  have k7 := k6.setIn (k := g) (by simp) c (.int .u32 (C2 : Nat))
  obtain ⟨s7, hs7⟩ : ∃ t, up s6 c C2 = t := ⟨_, rfl⟩
  rw [hs7] at b7 HEND
  refine lt_val (v := ?_) 0 (some 85) rfl (by kernel_rfl) (by kernel_rfl) (by kernel_rfl) (fun _ _ _ h => h) rfl rfl (fun w => ?_) ?_
  rotate_left
  · (go_simp; try with_reducible rfl)
  try simp only [Act.put, List.setIfInBounds_toArray, List.set_cons_zero, List.set_cons_succ]
  refine lt_val (v := ?_) 1 (some 86) rfl (by kernel_rfl) (by kernel_rfl) (by kernel_rfl) (fun _ _ _ h => h) rfl rfl (fun w => ?_) ?_
  rotate_left
  · (go_simp; try with_reducible rfl)
  try simp only [Act.put, List.setIfInBounds_toArray, List.set_cons_zero, List.set_cons_succ]
  refine lt_val (v := ?_) 2 (some 87) rfl (by kernel_rfl) (by kernel_rfl) (by kernel_rfl) (fun _ _ _ h => h) rfl rfl (fun w => ?_) ?_
  rotate_left
  · (go_simp; try with_reducible rfl)
  try simp only [Act.put, List.setIfInBounds_toArray, List.set_cons_zero, List.set_cons_succ]
  refine lt_val (v := ?_) 3 (some 88) rfl (by kernel_rfl) (by kernel_rfl) (by kernel_rfl) (fun _ _ _ h => h) rfl rfl (fun w => ?_) ?_
  rotate_left
  · (go_simp; try with_reducible rfl)
  try simp only [Act.put, List.setIfInBounds_toArray, List.set_cons_zero, List.set_cons_succ]
  refine lt_val (v := ?_) 4 (some 89) rfl (by kernel_rfl) (by kernel_rfl) (by kernel_rfl) (fun _ _ _ h => h) rfl rfl (fun w => ?_) ?_
  rotate_left
  · (go_simp; try with_reducible rfl)
  try simp only [Act.put, List.setIfInBounds_toArray, List.set_cons_zero, List.set_cons_succ]
  refine lt_read (v := (.int .u32 (C1 : Nat))) 5 (some 90) rfl (by kernel_rfl) (by kernel_rfl) (by kernel_rfl) (by kernel_rfl) (fun _ _ _ h => h) rfl rfl (fun w hSw => ?_) hHeld ?_
  · have hv := HV.out; unfold V at hv; have qx := (hSw.cell c).trans (tC_get 16 _ c HL.out.2.2.1); have qy := (hSw.cell d).trans (tC_get 16 _ d HL.out.2.2.2); rw [hC] at qx; rw [hD] at qy; (go_simp; try with_reducible rfl)
  try simp only [Act.put, List.setIfInBounds_toArray, List.set_cons_zero, List.set_cons_succ]
  refine lt_val (v := ?_) 6 (some 91) rfl (by kernel_rfl) (by kernel_rfl) (by kernel_rfl) (fun _ _ _ h => h) rfl rfl (fun w => ?_) ?_
  rotate_left
  · (go_simp; try with_reducible rfl)
  try simp only [Act.put, List.setIfInBounds_toArray, List.set_cons_zero, List.set_cons_succ]
  refine lt_val (v := ?_) 7 (some 92) rfl (by kernel_rfl) (by kernel_rfl) (by kernel_rfl) (fun _ _ _ h => h) rfl rfl (fun w => ?_) ?_
  rotate_left
  · (go_simp; try with_reducible rfl)
  try simp only [Act.put, List.setIfInBounds_toArray, List.set_cons_zero, List.set_cons_succ]
  refine lt_val (v := ?_) 8 (some 93) rfl (by kernel_rfl) (by kernel_rfl) (by kernel_rfl) (fun _ _ _ h => h) rfl rfl (fun w => ?_) ?_
  rotate_left
  · (go_simp; try with_reducible rfl)
  try simp only [Act.put, List.setIfInBounds_toArray, List.set_cons_zero, List.set_cons_succ]
  refine lt_read (v := (.int .u32 (D2 : Nat))) 9 (some 94) rfl (by kernel_rfl) (by kernel_rfl) (by kernel_rfl) (by kernel_rfl) (fun _ _ _ h => h) rfl rfl (fun w hSw => ?_) hHeld ?_
  · have hv := HV.out; unfold V at hv; have qx := (hSw.cell c).trans (tC_get 16 _ c HL.out.2.2.1); have qy := (hSw.cell d).trans (tC_get 16 _ d HL.out.2.2.2); rw [hC] at qx; rw [hD] at qy; (go_simp; try with_reducible rfl)
  try simp only [Act.put, List.setIfInBounds_toArray, List.set_cons_zero, List.set_cons_succ]
  refine lt_val (v := (.int .u32 (C2 : Nat))) 10 (some 95) rfl (by kernel_rfl) (by kernel_rfl) (by kernel_rfl) (fun _ _ _ h => h) rfl rfl (fun w => ?_) ?_
  · have hv := E7.out; (go_simp; try with_reducible rfl)
  try simp only [Act.put, List.setIfInBounds_toArray, List.set_cons_zero, List.set_cons_succ]
  refine lt_val (v := ?_) 11 (some 96) rfl (by kernel_rfl) (by kernel_rfl) (by kernel_rfl) (fun _ _ _ h => h) rfl rfl (fun w => ?_) ?_
  rotate_left
  · (go_simp; try with_reducible rfl)
  try simp only [Act.put, List.setIfInBounds_toArray, List.set_cons_zero, List.set_cons_succ]
  refine lt_one 12 rfl (by kernel_rfl) rfl (fun K hK => ?_)
  go_simp
  refine hK.out _ _ (fun h => absurd h (by decide)) ?_
  clear hK K
  try simp only [Act.put, List.setIfInBounds_toArray, List.set_cons_zero, List.set_cons_succ]
  refine lt_done (by kernel_rfl) ?_ _
  clear hHeld cx fx b6 k6
  obtain ⟨w7, hw⟩ : ∃ z, z = World.setCell z6 ⟨g, c, none⟩ (.int .u32 (C2 : Nat)) := ⟨_, rfl⟩
  rw [← hw] at b7 k7 ⊢
  clear hw
  have nhA : s7 a = A2 := by rw [← hs7]; unfold up; rw [if_neg HN.out.1.2.1]; exact hA
  have nhB : s7 b = B1 := by rw [← hs7]; unfold up; rw [if_neg HN.out.2.1.1]; exact hB
  have nhC : s7 c = C2 := by rw [← hs7]; unfold up; rw [if_pos rfl]
  have nhD : s7 d = D2 := by rw [← hs7]; unfold up; rw [if_neg (fun e => HN.out.2.2 e.symm)]; exact hD
  clear hA hB hC hD hs7
  have hA := nhA
  have hB := nhB
  have hC := nhC
  have hD := nhD
  clear nhA nhB nhC nhD
  go_wp2_with fail
  refine lt_begin (fun w' => Blk w' g (tC 16 s7) 24) (fun n => n == 13) (by kernel_rfl) ?_
  replace k7 := k7.drew
  replace b7 := b7.drew
  obtain ⟨z7, hz⟩ : ∃ z, z = World.drew w7 := ⟨_, rfl⟩
  rw [← hz] at k7 b7 ⊢
  clear hz
  have hHeld := b7
  have cx := (b7.cell b).trans (tC_get 16 _ b HL.out.2.1)
  have fx := b7.frozen b
  have b8 := (b7.setCell b (.int .u32 (B2 : Nat))).to (tC_set 16 _ b B2)
  have k8 := k7.setIn (k := g) (by simp) b (.int .u32 (B2 : Nat))
  obtain ⟨s8, hs8⟩ : ∃ t, up s7 b B2 = t := ⟨_, rfl⟩
  rw [hs8] at b8 HEND
  refine lt_val (v := ?_) 0 (some 97) rfl (by kernel_rfl) (by kernel_rfl) (by kernel_rfl) (fun _ _ _ h => h) rfl rfl (fun w => ?_) ?_
  rotate_left
  · (go_simp; try with_reducible rfl)
  try simp only [Act.put, List.setIfInBounds_toArray, List.set_cons_zero, List.set_cons_succ]
  refine lt_val (v := ?_) 1 (some 98) rfl (by kernel_rfl) (by kernel_rfl) (by kernel_rfl) (fun _ _ _ h => h) rfl rfl (fun w => ?_) ?_
  rotate_left
  · (go_simp; try with_reducible rfl)
  try simp only [Act.put, List.setIfInBounds_toArray, List.set_cons_zero, List.set_cons_succ]
  refine lt_val (v := ?_) 2 (some 99) rfl (by kernel_rfl) (by kernel_rfl) (by kernel_rfl) (fun _ _ _ h => h) rfl rfl (fun w => ?_) ?_
  rotate_left
  · (go_simp; try with_reducible rfl)
  try simp only [Act.put, List.setIfInBounds_toArray, List.set_cons_zero, List.set_cons_succ]
  refine lt_val (v := ?_) 3 (some 100) rfl (by kernel_rfl) (by kernel_rfl) (by kernel_rfl) (fun _ _ _ h => h) rfl rfl (fun w => ?_) ?_
  rotate_left
  · (go_simp; try with_reducible rfl)
  try simp only [Act.put, List.setIfInBounds_toArray, List.set_cons_zero, List.set_cons_succ]
  refine lt_val (v := ?_) 4 (some 101) rfl (by kernel_rfl) (by kernel_rfl) (by kernel_rfl) (fun _ _ _ h => h) rfl rfl (fun w => ?_) ?_
  rotate_left
  · (go_simp; try with_reducible rfl)
  try simp only [Act.put, List.setIfInBounds_toArray, List.set_cons_zero, List.set_cons_succ]
  refine lt_read (v := (.int .u32 (B1 : Nat))) 5 (some 102) rfl (by kernel_rfl) (by kernel_rfl) (by kernel_rfl) (by kernel_rfl) (fun _ _ _ h => h) rfl rfl (fun w hSw => ?_) hHeld ?_
  · have hv := HV.out; unfold V at hv; have qx := (hSw.cell b).trans (tC_get 16 _ b HL.out.2.1); have qy := (hSw.cell c).trans (tC_get 16 _ c HL.out.2.2.1); rw [hB] at qx; rw [hC] at qy; (go_simp; try with_reducible rfl)
  try simp only [Act.put, List.setIfInBounds_toArray, List.set_cons_zero, List.set_cons_succ]
  refine lt_val (v := ?_) 6 (some 103) rfl (by kernel_rfl) (by kernel_rfl) (by kernel_rfl) (fun _ _ _ h => h) rfl rfl (fun w => ?_) ?_
  rotate_left
  · (go_simp; try with_reducible rfl)
  try simp only [Act.put, List.setIfInBounds_toArray, List.set_cons_zero, List.set_cons_succ]
  refine lt_val (v := ?_) 7 (some 104) rfl (by kernel_rfl) (by kernel_rfl) (by kernel_rfl) (fun _ _ _ h => h) rfl rfl (fun w => ?_) ?_
  rotate_left
  · (go_simp; try with_reducible rfl)
  try simp only [Act.put, List.setIfInBounds_toArray, List.set_cons_zero, List.set_cons_succ]
  refine lt_val (v := ?_) 8 (some 105) rfl (by kernel_rfl) (by kernel_rfl) (by kernel_rfl) (fun _ _ _ h => h) rfl rfl (fun w => ?_) ?_
  rotate_left
  · (go_simp; try with_reducible rfl)
  try simp only [Act.put, List.setIfInBounds_toArray, List.set_cons_zero, List.set_cons_succ]
  refine lt_read (v := (.int .u32 (C2 : Nat))) 9 (some 106) rfl (by kernel_rfl) (by kernel_rfl) (by kernel_rfl) (by kernel_rfl) (fun _ _ _ h => h) rfl rfl (fun w hSw => ?_) hHeld ?_
  · have hv := HV.out; unfold V at hv; have qx := (hSw.cell b).trans (tC_get 16 _ b HL.out.2.1); have qy := (hSw.cell c).trans (tC_get 16 _ c HL.out.2.2.1); rw [hB] at qx; rw [hC] at qy; (go_simp; try with_reducible rfl)
  try simp only [Act.put, List.setIfInBounds_toArray, List.set_cons_zero, List.set_cons_succ]
  refine lt_val (v := (.int .u32 (B1 ^^^ C2 : Nat))) 10 (some 107) rfl (by kernel_rfl) (by kernel_rfl) (by kernel_rfl) (fun _ _ _ h => h) rfl rfl (fun w => ?_) ?_
  · have hv := X8.out; (go_simp; try with_reducible rfl)
  try simp only [Act.put, List.setIfInBounds_toArray, List.set_cons_zero, List.set_cons_succ]
  refine lt_one 11 rfl (by kernel_rfl) rfl (fun K hK => ?_)
  go_simp
  refine (H8.out z7).mono ?_
  rintro e wt ⟨rfl, rfl⟩
  go_wp2_with fail
  refine hK.out _ _ (fun _ h => h) ?_
  clear hK K
  try simp only [Act.put, List.setIfInBounds_toArray, List.set_cons_zero, List.set_cons_succ]
  refine lt_val (v := ?_) 12 (some 109) rfl (by kernel_rfl) (by kernel_rfl) (by kernel_rfl) (fun _ _ _ h => h) rfl rfl (fun w => ?_) ?_
  rotate_left
  · (go_simp; try with_reducible rfl)
  try simp only [Act.put, List.setIfInBounds_toArray, List.set_cons_zero, List.set_cons_succ]
  refine lt_one 13 rfl (by kernel_rfl) rfl (fun K hK => ?_)
  go_simp
  refine hK.out _ _ (fun h => absurd h (by decide)) ?_
  clear hK K
  try simp only [Act.put, List.setIfInBounds_toArray, List.set_cons_zero, List.set_cons_succ]
  refine lt_done (by kernel_rfl) ?_ _
  clear hHeld cx fx b7 k7
  obtain ⟨w8, hw⟩ : ∃ z, z = World.setCell wt ⟨g, b, none⟩ (.int .u32 (B2 : Nat)) := ⟨_, rfl⟩
  rw [← hw] at b8 k8 ⊢
  clear hw
  have nhA : s8 a = A2 := by rw [← hs8]; unfold up; rw [if_neg HN.out.1.1]; exact hA
  have nhB : s8 b = B2 := by rw [← hs8]; unfold up; rw [if_pos rfl]
  have nhC : s8 c = C2 := by rw [← hs8]; unfold up; rw [if_neg (fun e => HN.out.2.1.1 e.symm)]; exact hC
  have nhD : s8 d = D2 := by rw [← hs8]; unfold up; rw [if_neg (fun e => HN.out.2.1.2 e.symm)]; exact hD
  clear hA hB hC hD hs8
  have hA := nhA
  have hB := nhB
  have hC := nhC
  have hD := nhD
  clear nhA nhB nhC nhD
  go_wp2_with fail
  go_end0
  exact ⟨rfl, b8.to (tC_eq HEND.out), k8⟩
end Go.Proofs.Ytachilkhbfpahaa
