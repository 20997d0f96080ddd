/- seal: word, putWord, quarter. -/
import Derived.Test.YtnopkojpgemldaaSeA
set_option linter.unusedVariables false
set_option linter.unusedSimpArgs false
set_option linter.unnecessarySimpa false
namespace Go.Proofs.Ytnopkojpgemldaa
open Go.RowKit

theorem or_join3 (i : Nat) (x y : Int) (hi : i ≤ 32) (hx : 0 ≤ x) (hx1 : x < 2 ^ i) (hy : 0 ≤ y) (hy1 : y < 4294967296) (hm : y % 2 ^ i = 0) : bits .or .u32 x y = x + y := by
  obtain ⟨a, rfl⟩ := Int.eq_ofNat_of_zero_le hx
  obtain ⟨b, rfl⟩ := Int.eq_ofNat_of_zero_le hy
  have ha : a < 2 ^ i := by exact_mod_cast hx1
  have hp : (2 : Nat) ^ i ≤ 2 ^ 32 := Nat.pow_le_pow_right (by omega) hi
  have hb : b % 2 ^ i = 0 := by exact_mod_cast hm
  rw [u32_or_nat a b (by omega) (by omega), Nat.or_comm, nat_join i b a hb ha]
  omega
set_option maxHeartbeats 4000000 in
set_option maxRecDepth 100000 in
theorem word4_any (g o n c : Nat) (b0 b1 b2 b3 : Int) (w : World) (hn : 4 ≤ n)
    (h0 : 0 ≤ b0 ∧ b0 < 256) (h1 : 0 ≤ b1 ∧ b1 < 256) (h2 : 0 ≤ b2 ∧ b2 < 256) (h3 : 0 ≤ b3 ∧ b3 < 256)
    (c0 : w.cell? ⟨g, o, none⟩ = some (.int .u8 b0)) (c1 : w.cell? ⟨g, o + 1, none⟩ = some (.int .u8 b1)) (c2 : w.cell? ⟨g, o + 2, none⟩ = some (.int .u8 b2)) (c3 : w.cell? ⟨g, o + 3, none⟩ = some (.int .u8 b3)) :
    Calls Try.prog 64 #[.slice (some ⟨g, o, none⟩) n c] w fun e w' => e = .returned (.int .u32 (b0 + b1 * 256 + b2 * 65536 + b3 * 16777216)) ∧ ∃ m, w' = w.drewN m := by
  obtain ⟨l0, u0⟩ := h0; obtain ⟨l1, u1⟩ := h1; obtain ⟨l2, u2⟩ := h2; obtain ⟨l3, u3⟩ := h3
  have q0 : (0 : Int) < (n : Int) := by omega
  have q1 : (1 : Int) < (n : Int) := by omega
  have q2 : (2 : Int) < (n : Int) := by omega
  have q3 : (3 : Int) < (n : Int) := by omega
  have m1 : bits .or .u32 (b0) (b1 * 256) = b0 + b1 * 256 := or_join3 8 _ _ (by decide) (by omega) (by simp only [Int.reducePow]; omega) (by omega) (by omega) (by simp only [Int.reducePow]; omega)
  have m2 : bits .or .u32 (b0 + b1 * 256) (b2 * 65536) = b0 + b1 * 256 + b2 * 65536 := or_join3 16 _ _ (by decide) (by omega) (by simp only [Int.reducePow]; omega) (by omega) (by omega) (by simp only [Int.reducePow]; omega)
  have m3 : bits .or .u32 (b0 + b1 * 256 + b2 * 65536) (b3 * 16777216) = b0 + b1 * 256 + b2 * 65536 + b3 * 16777216 := or_join3 24 _ _ (by decide) (by omega) (by simp only [Int.reducePow]; omega) (by omega) (by omega) (by simp only [Int.reducePow]; omega)
  go_enter Try.func64, Try.ntmps64
  go_wp2
  go_quiet (fail)
  go_wp2
  go_ret
  exact ⟨rfl, _, rfl⟩
theorem word4_s (g o n c : Nat) (b : Nat → Nat) (w : World) (hn : 4 ≤ n) (hb : ∀ i, i < 4 → b i < 256) (hc : ∀ i, i < 4 → w.cell? ⟨g, o + i, none⟩ = some (.int .u8 (b i))) :
    Calls Try.prog 64 #[.slice (some ⟨g, o, none⟩) n c] w fun e w' => e = .returned (.int .u32 (le4 b : Nat)) ∧ ∃ m, w' = w.drewN m := by
  have B : ∀ i, i < 4 → 0 ≤ (b i : Int) ∧ (b i : Int) < 256 := fun i hi => by have := hb i hi; omega
  have h := word4_any g o n c (b 0) (b 1) (b 2) (b 3) w hn (B 0 (by omega)) (B 1 (by omega)) (B 2 (by omega)) (B 3 (by omega)) (hc 0 (by omega)) (hc 1 (by omega)) (hc 2 (by omega)) (hc 3 (by omega))
  have e : ((le4 b : Nat) : Int) = (b 0 : Int) + b 1 * 256 + b 2 * 65536 + b 3 * 16777216 := by unfold le4; omega
  rw [e]
  exact h
set_option maxHeartbeats 4000000 in
set_option maxRecDepth 100000 in
theorem putWord4_any (g o n c : Nat) (v : Int) (hn : 4 ≤ n) (hv : 0 ≤ v) (hv1 : v < 4294967296) (x0 x1 x2 x3 : Value) (y3 : Int) (hy : x3 = .int .u8 y3) (w : World)
    (c0 : w.cell? ⟨g, o, none⟩ = some x0) (c1 : w.cell? ⟨g, o + 1, none⟩ = some x1) (c2 : w.cell? ⟨g, o + 2, none⟩ = some x2) (c3 : w.cell? ⟨g, o + 3, none⟩ = some x3)
    (f0 : w.frozen? ⟨g, o, none⟩ = false) (f1 : w.frozen? ⟨g, o + 1, none⟩ = false) (f2 : w.frozen? ⟨g, o + 2, none⟩ = false) (f3 : w.frozen? ⟨g, o + 3, none⟩ = false) :
    Calls Try.prog 66 #[.slice (some ⟨g, o, none⟩) n c, .int .u32 v] w fun e w' => e = .returned (.tuple #[]) ∧ w' = ((((w.setCell ⟨g, o, none⟩ (.int .u8 (v % 256))).setCell ⟨g, o + 1, none⟩ (.int .u8 (v / 256 % 256))).setCell ⟨g, o + 2, none⟩ (.int .u8 (v / 65536 % 256))).setCell ⟨g, o + 3, none⟩ (.int .u8 (v / 16777216 % 256))) := by
  subst hy
  have q0 : (0 : Int) < (n : Int) := by omega
  have q1 : (1 : Int) < (n : Int) := by omega
  have q2 : (2 : Int) < (n : Int) := by omega
  have q3 : (3 : Int) < (n : Int) := by omega
  go_enter Try.func66, Try.ntmps66
  go_wp2
  go_end0
  rw [show v / 16777216 % 256 = v / 16777216 from by omega]
  exact ⟨rfl, rfl⟩
/-- Four bytes of v, laid at o, the lowest first. -/
def pu (f : Nat → Nat) (o v : Nat) : Nat → Nat := fun j => if o ≤ j ∧ j < o + 4 then v / 256 ^ (j - o) % 256 else f j
theorem putWord4_s (g o n c N : Nat) (f : Nat → Nat) (v : Nat) (T : TypeId) (w : World) (hn : 4 ≤ n) (hv : V v) (ho : o + 4 ≤ N) (hb : Blk w g (yC N f) T) :
    Calls Try.prog 66 #[.slice (some ⟨g, o, none⟩) n c, .int .u32 v] w fun e w' => e = .returned (.tuple #[]) ∧ Blk w' g (yC N (pu f o v)) T ∧ Chg w w' [g] := by
  have hc : ∀ i, i < 4 → w.cell? ⟨g, o + i, none⟩ = some (.int .u8 (f (o + i))) := fun i hi => by rw [hb.cell, yC_get _ _ _ (by omega)]
  unfold V at hv
  refine (putWord4_any g o n c v hn (by omega) (by omega) _ _ _ _ _ rfl w (hc 0 (by omega)) (hc 1 (by omega)) (hc 2 (by omega)) (hc 3 (by omega)) (hb.frozen _) (hb.frozen _) (hb.frozen _) (hb.frozen _)).mono ?_
  rintro e w' ⟨rfl, rfl⟩
  refine ⟨rfl, ?_, ?_⟩
  · have k := (((hb.setCell o (.int .u8 ((v % 256 : Nat)))).setCell (o + 1) (.int .u8 ((v / 256 % 256 : Nat)))).setCell (o + 2) (.int .u8 ((v / 65536 % 256 : Nat)))).setCell (o + 3) (.int .u8 ((v / 16777216 % 256 : Nat)))
    simp only [yC_set] at k
    refine k.to (yC_eq fun j hj => ?_)
    unfold up pu
    by_cases h : o ≤ j ∧ j < o + 4
    · rw [if_pos h]
      obtain ⟨i, hi, rfl⟩ : ∃ i, i < 4 ∧ j = o + i := ⟨j - o, by omega, by omega⟩
      have hcs : i = 0 ∨ i = 1 ∨ i = 2 ∨ i = 3 := by omega
      rw [Nat.add_sub_cancel_left]
      rcases hcs with rfl | rfl | rfl | rfl <;> simp
    · rw [if_neg h]
      simp only [show ¬ j = o + 3 from by omega, show ¬ j = o + 2 from by omega, show ¬ j = o + 1 from by omega, show ¬ j = o from by omega, if_false]
  · have hm : g ∈ [g] := by simp
    exact (((((Chg.refl w [g]).setIn hm _ _).setIn hm _ _).setIn hm _ _).setIn hm _ _)

theorem rol_16 (x : Nat) (hx : V x) (w : World) : Calls Try.prog 99 #[.int .u32 x, .int .i64 16] w fun e w' => e = .returned (.int .u32 (rl 16 x : Nat)) ∧ w' = w := by
  unfold V at hx
  have e1 : bits .and .u64 16 31 = 16 := by decide
  have e2 : bits .or .u32 (IntKind.u32.wrap ((x : Int) * 65536)) ((x : Int) / 65536) = ((rl 16 x : Nat) : Int) := by
    rw [IntKind.wrap_u32]
    have h1 : ((x : Int) * 65536) % 4294967296 = ((x * 65536 % 4294967296 : Nat) : Int) := by omega
    have h2 : (x : Int) / 65536 = ((x / 65536 : Nat) : Int) := by omega
    rw [h1, h2, u32_or_nat _ _ (by omega) (by omega)]
    unfold rl
    rw [Nat.shiftLeft_eq, Nat.shiftRight_eq_div_pow]
  go_enter Try.func99, Try.ntmps99
  go_wp2
  go_ret
  exact ⟨by rw [← e2]; rfl, rfl⟩

theorem rol_12 (x : Nat) (hx : V x) (w : World) : Calls Try.prog 99 #[.int .u32 x, .int .i64 12] w fun e w' => e = .returned (.int .u32 (rl 12 x : Nat)) ∧ w' = w := by
  unfold V at hx
  have e1 : bits .and .u64 12 31 = 12 := by decide
  have e2 : bits .or .u32 (IntKind.u32.wrap ((x : Int) * 4096)) ((x : Int) / 1048576) = ((rl 12 x : Nat) : Int) := by
    rw [IntKind.wrap_u32]
    have h1 : ((x : Int) * 4096) % 4294967296 = ((x * 4096 % 4294967296 : Nat) : Int) := by omega
    have h2 : (x : Int) / 1048576 = ((x / 1048576 : Nat) : Int) := by omega
    rw [h1, h2, u32_or_nat _ _ (by omega) (by omega)]
    unfold rl
    rw [Nat.shiftLeft_eq, Nat.shiftRight_eq_div_pow]
  go_enter Try.func99, Try.ntmps99
  go_wp2
  go_ret
  exact ⟨by rw [← e2]; rfl, rfl⟩

theorem rol_8 (x : Nat) (hx : V x) (w : World) : Calls Try.prog 99 #[.int .u32 x, .int .i64 8] w fun e w' => e = .returned (.int .u32 (rl 8 x : Nat)) ∧ w' = w := by
  unfold V at hx
  have e1 : bits .and .u64 8 31 = 8 := by decide
  have e2 : bits .or .u32 (IntKind.u32.wrap ((x : Int) * 256)) ((x : Int) / 16777216) = ((rl 8 x : Nat) : Int) := by
    rw [IntKind.wrap_u32]
    have h1 : ((x : Int) * 256) % 4294967296 = ((x * 256 % 4294967296 : Nat) : Int) := by omega
    have h2 : (x : Int) / 16777216 = ((x / 16777216 : Nat) : Int) := by omega
    rw [h1, h2, u32_or_nat _ _ (by omega) (by omega)]
    unfold rl
    rw [Nat.shiftLeft_eq, Nat.shiftRight_eq_div_pow]
  go_enter Try.func99, Try.ntmps99
  go_wp2
  go_ret
  exact ⟨by rw [← e2]; rfl, rfl⟩

theorem rol_7 (x : Nat) (hx : V x) (w : World) : Calls Try.prog 99 #[.int .u32 x, .int .i64 7] w fun e w' => e = .returned (.int .u32 (rl 7 x : Nat)) ∧ w' = w := by
  unfold V at hx
  have e1 : bits .and .u64 7 31 = 7 := by decide
  have e2 : bits .or .u32 (IntKind.u32.wrap ((x : Int) * 128)) ((x : Int) / 33554432) = ((rl 7 x : Nat) : Int) := by
    rw [IntKind.wrap_u32]
    have h1 : ((x : Int) * 128) % 4294967296 = ((x * 128 % 4294967296 : Nat) : Int) := by omega
    have h2 : (x : Int) / 33554432 = ((x / 33554432 : Nat) : Int) := by omega
    rw [h1, h2, u32_or_nat _ _ (by omega) (by omega)]
    unfold rl
    rw [Nat.shiftLeft_eq, Nat.shiftRight_eq_div_pow]
  go_enter Try.func99, Try.ntmps99
  go_wp2
  go_ret
  exact ⟨by rw [← e2]; rfl, rfl⟩

theorem results_tmp4 {fn : Func} {t u v x : Tmp} (h : fn.results = #[.tmp t, .tmp u, .tmp v, .tmp x]) (tmps : Array Value) (P : Program) (w : World) :
    (results fn tmps).run P w = .ok (.tuple #[tmps.getD t undef, tmps.getD u undef, tmps.getD v undef, tmps.getD x undef]) w := by
  simp [results, h]
theorem w32 (a b : Nat) : IntKind.u32.wrap ((a : Int) + (b : Int)) = (((a + b) % 4294967296 : Nat) : Int) := by rw [IntKind.wrap_u32]; omega
set_option maxHeartbeats 4000000 in
set_option maxRecDepth 100000 in
theorem quarter_s (a b c d : Nat) (ha : V a) (hb : V b) (hc : V c) (hd : V d) (w : World) :
    Calls Try.prog 94 #[.int .u32 a, .int .u32 b, .int .u32 c, .int .u32 d] w fun e w' => e = .returned (.tuple #[.int .u32 (q5 a b c d : Nat), .int .u32 (q8 a b c d : Nat), .int .u32 (q7 a b c d : Nat), .int .u32 (q6 a b c d : Nat)]) ∧ w' = w := by
  obtain ⟨A1, hA1⟩ : ∃ x, q1 a b c d = x := ⟨_, rfl⟩
  obtain ⟨D1, hD1⟩ : ∃ x, q2 a b c d = x := ⟨_, rfl⟩
  obtain ⟨C1, hC1⟩ : ∃ x, q3 a b c d = x := ⟨_, rfl⟩
  obtain ⟨B1, hB1⟩ : ∃ x, q4 a b c d = x := ⟨_, rfl⟩
  obtain ⟨A2, hA2⟩ : ∃ x, q5 a b c d = x := ⟨_, rfl⟩
  obtain ⟨D2, hD2⟩ : ∃ x, q6 a b c d = x := ⟨_, rfl⟩
  obtain ⟨C2, hC2⟩ : ∃ x, q7 a b c d = x := ⟨_, rfl⟩
  obtain ⟨B2, hB2⟩ : ∃ x, q8 a b c d = x := ⟨_, rfl⟩
  have v1 : V A1 := by rw [← hA1]; exact q1_lt _ _ _ _
  have v2 : V D1 := by rw [← hD1]; exact q2_lt hd
  have v3 : V C1 := by rw [← hC1]; exact q3_lt _ _ _ _
  have v4 : V B1 := by rw [← hB1]; exact q4_lt hb
  have v5 : V A2 := by rw [← hA2]; exact q5_lt _ _ _ _
  have v6 : V D2 := by rw [← hD2]; exact q6_lt hd
  have v7 : V C2 := by rw [← hC2]; exact q7_lt _ _ _ _
  have e1 : IntKind.u32.wrap ((a : Int) + (b : Int)) = (A1 : Int) := by rw [w32, ← hA1]; rfl
  have x2 : bits .xor .u32 (d : Int) (A1 : Int) = ((d ^^^ A1 : Nat) : Int) := u32_xor_nat _ _ hd v1
  have r2 : rl 16 (d ^^^ A1) = D1 := by rw [← hD1, ← hA1]; rfl
  have e3 : IntKind.u32.wrap ((c : Int) + (D1 : Int)) = (C1 : Int) := by rw [w32, ← hC1, ← hD1]; rfl
  have x4 : bits .xor .u32 (b : Int) (C1 : Int) = ((b ^^^ C1 : Nat) : Int) := u32_xor_nat _ _ hb v3
  have r4 : rl 12 (b ^^^ C1) = B1 := by rw [← hB1, ← hC1]; rfl
  have e5 : IntKind.u32.wrap ((A1 : Int) + (B1 : Int)) = (A2 : Int) := by rw [w32, ← hA2, ← hA1, ← hB1]; rfl
  have x6 : bits .xor .u32 (D1 : Int) (A2 : Int) = ((D1 ^^^ A2 : Nat) : Int) := u32_xor_nat _ _ v2 v5
  have r6 : rl 8 (D1 ^^^ A2) = D2 := by rw [← hD2, ← hD1, ← hA2]; rfl
  have e7 : IntKind.u32.wrap ((C1 : Int) + (D2 : Int)) = (C2 : Int) := by rw [w32, ← hC2, ← hC1, ← hD2]; rfl
  have x8 : bits .xor .u32 (B1 : Int) (C2 : Int) = ((B1 ^^^ C2 : Nat) : Int) := u32_xor_nat _ _ v4 v7
  have r8 : rl 7 (B1 ^^^ C2) = B2 := by rw [← hB2, ← hB1, ← hC2]; rfl
  have H2 : Hid (Calls Try.prog 99 #[.int .u32 ((d ^^^ A1 : Nat) : Int), .int .i64 16] w fun e w' => e = .returned (.int .u32 (D1 : Int)) ∧ w' = w) := by have := rol_16 (d ^^^ A1) (xorV hd v1) w; rw [r2] at this; exact this
  have H4 : Hid (Calls Try.prog 99 #[.int .u32 ((b ^^^ C1 : Nat) : Int), .int .i64 12] w fun e w' => e = .returned (.int .u32 (B1 : Int)) ∧ w' = w) := by have := rol_12 (b ^^^ C1) (xorV hb v3) w; rw [r4] at this; exact this
  have H6 : Hid (Calls Try.prog 99 #[.int .u32 ((D1 ^^^ A2 : Nat) : Int), .int .i64 8] w fun e w' => e = .returned (.int .u32 (D2 : Int)) ∧ w' = w) := by have := rol_8 (D1 ^^^ A2) (xorV v2 v5) w; rw [r6] at this; exact this
  have H8 : Hid (Calls Try.prog 99 #[.int .u32 ((B1 ^^^ C2 : Nat) : Int), .int .i64 7] w fun e w' => e = .returned (.int .u32 (B2 : Int)) ∧ w' = w) := by have := rol_7 (B1 ^^^ C2) (xorV v4 v7) w; rw [r8] at this; exact this
  rw [hA2, hB2, hC2, hD2]
  clear hA1 hD1 hC1 hB1 hA2 hD2 hC2 hB2 r2 r4 r6 r8 v1 v2 v3 v4 v5 v6 v7 ha hb hc hd
  obtain ⟨X2, hX2⟩ : ∃ x, d ^^^ A1 = x := ⟨_, rfl⟩
  obtain ⟨X4, hX4⟩ : ∃ x, b ^^^ C1 = x := ⟨_, rfl⟩
  obtain ⟨X6, hX6⟩ : ∃ x, D1 ^^^ A2 = x := ⟨_, rfl⟩
  obtain ⟨X8, hX8⟩ : ∃ x, B1 ^^^ C2 = x := ⟨_, rfl⟩
  rw [hX2] at x2 H2; rw [hX4] at x4 H4; rw [hX6] at x6 H6; rw [hX8] at x8 H8
  clear hX2 hX4 hX6 hX8
  go_enter Try.func94, Try.ntmps94
  go_wp2_with fail
  refine H2.out.mono ?_
  rintro e w' ⟨rfl, rfl⟩
  go_wp2_with fail
  refine H4.out.mono ?_
  rintro e w' ⟨rfl, rfl⟩
  go_wp2_with fail
  refine H6.out.mono ?_
  rintro e w' ⟨rfl, rfl⟩
  go_wp2_with fail
  refine H8.out.mono ?_
  rintro e w' ⟨rfl, rfl⟩
  go_wp2_with fail
  (try simp only [Exit.inBlock, Exit.then])
  refine bodyPost_ret (results_tmp4 rfl _ _ _) rfl ?_
  exact ⟨rfl, rfl⟩
end Go.Proofs.Ytnopkojpgemldaa
