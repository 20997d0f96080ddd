/- seal: long, putLong, residueOf. -/
import Derived.Test.YtnopkojpgemldaaSeE
import Derived.Test.YtnopkojpgemldaaSeP
set_option linter.unusedVariables false
set_option linter.unusedSimpArgs false
set_option linter.unnecessarySimpa false
namespace Go.Proofs.Ytnopkojpgemldaa
open Go.RowKit

/-- Eight bytes, the lowest first. -/
def le8 (b : Nat → Nat) : Nat := le4 b + le4 (fun i => b (4 + i)) * 4294967296
theorem le8_lt {b : Nat → Nat} (h : ∀ i, i < 8 → b i < 256) : U (le8 b) := by
  have h1 := le4_lt (b := b) (fun i hi => h i (by omega))
  have h2 := le4_lt (b := fun i => b (4 + i)) (fun i hi => h _ (by omega))
  unfold V at h1 h2
  unfold le8 U
  omega
theorem le8_nle (b : Nat → Nat) : le8 b = nle b 8 := by
  simp [le8, le4, nle]; omega
set_option maxHeartbeats 8000000 in
set_option maxRecDepth 100000 in
theorem long_s (g o n c : Nat) (b : Nat → Nat) (w : World) (hn : 8 ≤ n) (hc : n ≤ c) (hb : Bs w g o 8 b) :
    Calls Try.prog 38 #[.slice (some ⟨g, o, none⟩) n c] w fun e w' => e = .returned (.int .u64 (le8 b : Nat)) ∧ ∃ m, w' = w.drewN m := by
  obtain ⟨A, hA⟩ : ∃ A, le4 b = A := ⟨_, rfl⟩
  obtain ⟨D, hD⟩ : ∃ D, le4 (fun i => b (4 + i)) = D := ⟨_, rfl⟩
  obtain ⟨R, hR⟩ : ∃ R, le8 b = R := ⟨_, rfl⟩
  have vA : V A := by rw [← hA]; exact le4_lt (fun i hi => hb.bd i (by omega))
  have vD : V D := by rw [← hD]; exact le4_lt (fun i hi => hb.bd _ (by omega))
  have eR : A + D * 4294967296 = R := by rw [← hA, ← hD, ← hR]; rfl
  unfold V at vA vD
  have HA : Hid (∀ k, Calls Try.prog 64 #[.slice (some ⟨g, o, none⟩) n c] (w.drewN k) fun e w' => e = .returned (.int .u32 (A : Int)) ∧ ∃ m, w' = (w.drewN k).drewN m) := fun k => by
    have h := hb.drewN k
    have q := word4_s g o n c b (w.drewN k) (by omega) (fun i hi => h.bd i (by omega)) (fun i hi => h.cell i (by omega))
    rw [hA] at q; exact q
  have HD : Hid (∀ k, Calls Try.prog 64 #[.slice (some ⟨g, o + 4, none⟩) (n - 4) (c - 4)] (w.drewN k) fun e w' => e = .returned (.int .u32 (D : Int)) ∧ ∃ m, w' = (w.drewN k).drewN m) := fun k => by
    have h := hb.drewN k
    have q := word4_s g (o + 4) (n - 4) (c - 4) (fun i => b (4 + i)) (w.drewN k) (by omega) (fun i hi => h.bd _ (by omega)) (fun i hi => by rw [Nat.add_assoc]; exact h.cell _ (by omega))
    rw [hD] at q; exact q
  rw [hR]
  have hn4 : (4 : Int) ≤ (n : Int) := by omega
  have hnc : (n : Int) ≤ (c : Int) := by omega
  have hc4 : ¬ c = 4 := by omega
  have e1 : bits .or .u64 (A : Int) ((D : Int) * 4294967296) = (R : Int) := by
    rw [or_join 32 (A : Int) ((D : Int) * 4294967296) (by decide) (by omega) (by simp only [Int.reducePow]; omega) (by omega) (by omega) (by simp only [Int.reducePow]; omega)]; omega
  have HBD : Hid (A < 4294967296 ∧ D < 4294967296) := ⟨vA, vD⟩
  have vA2 : (A : Int) < 4294967296 := by omega
  have vD2 : (D : Int) < 4294967296 := by omega
  have wA : IntKind.u64.wrap (A : Int) = (A : Int) := by rw [IntKind.wrap_u64]; omega
  have wD : IntKind.u64.wrap (D : Int) = (D : Int) := by rw [IntKind.wrap_u64]; omega
  have wE : IntKind.u64.wrap ((D : Int) * 4294967296) = (D : Int) * 4294967296 := by rw [IntKind.wrap_u64]; omega
  clear hA hD hR eR hb
  go_enter Try.func38, Try.ntmps38
  go_wp2_with fail
  refine lt_begin (fun w' => True) (fun n => false) (by kernel_rfl) ?_
  refine lt_val (v := ?_) 0 (some 3) rfl (by kernel_rfl) (by kernel_rfl) (by kernel_rfl) (fun _ _ _ h => h) rfl rfl (fun w => ?_) ?_
  rotate_left
  · (go_simp; try with_reducible rfl)
  try simp only [Act.put, List.setIfInBounds_toArray, List.set_cons_zero, List.set_cons_succ]
  refine lt_val (v := ?_) 3 (some 6) rfl (by kernel_rfl) (by kernel_rfl) (by kernel_rfl) (fun _ _ _ h => h) rfl rfl (fun w => ?_) ?_
  rotate_left
  · (go_simp; try with_reducible rfl)
  try simp only [Act.put, List.setIfInBounds_toArray, List.set_cons_zero, List.set_cons_succ]
  refine lt_val (v := (.slice (some ⟨g, o + 4, none⟩) (n - 4) (c - 4))) 4 (some 7) rfl (by kernel_rfl) (by kernel_rfl) (by kernel_rfl) (fun _ _ _ h => h) rfl rfl (fun w => ?_) ?_
  · (go_simp; try with_reducible rfl)
  try simp only [Act.put, List.setIfInBounds_toArray, List.set_cons_zero, List.set_cons_succ]
  refine lt_one 1 rfl (by kernel_rfl) rfl (fun K hK => ?_)
  go_simp
  refine (HA.out 1).mono ?_
  rintro e v1 ⟨rfl, m1, rfl⟩
  go_wp2_with fail
  refine hK.out _ _ (fun _ h => h) ?_
  clear hK K
  try simp only [Act.put, List.setIfInBounds_toArray, List.set_cons_zero, List.set_cons_succ]
  refine lt_val (v := (.int .u64 (A : Int))) 2 (some 5) rfl (by kernel_rfl) (by kernel_rfl) (by kernel_rfl) (fun _ _ _ h => h) rfl rfl (fun w => ?_) ?_
  · (go_simp; try with_reducible rfl)
  try simp only [Act.put, List.setIfInBounds_toArray, List.set_cons_zero, List.set_cons_succ]
  refine lt_one 5 rfl (by kernel_rfl) rfl (fun K hK => ?_)
  go_simp
  refine (HD.out (1 + m1)).mono ?_
  rintro e v2 ⟨rfl, m2, rfl⟩
  go_wp2_with fail
  refine hK.out _ _ (fun _ h => h) ?_
  clear hK K
  try simp only [Act.put, List.setIfInBounds_toArray, List.set_cons_zero, List.set_cons_succ]
  refine lt_val (v := (.int .u64 (D : Int))) 6 (some 9) rfl (by kernel_rfl) (by kernel_rfl) (by kernel_rfl) (fun _ _ _ h => h) rfl rfl (fun w => ?_) ?_
  · (go_simp; try with_reducible rfl)
  try simp only [Act.put, List.setIfInBounds_toArray, List.set_cons_zero, List.set_cons_succ]
  refine lt_val (v := (.int .u64 ((D : Int) * 4294967296))) 7 (some 10) rfl (by kernel_rfl) (by kernel_rfl) (by kernel_rfl) (fun _ _ _ h => h) rfl rfl (fun w => ?_) ?_
  · (go_simp; try with_reducible rfl)
  try simp only [Act.put, List.setIfInBounds_toArray, List.set_cons_zero, List.set_cons_succ]
  refine lt_val (v := (.int .u64 (R : Int))) 8 (some 11) rfl (by kernel_rfl) (by kernel_rfl) (by kernel_rfl) (fun _ _ _ h => h) rfl rfl (fun w => ?_) ?_
  · (go_simp; try with_reducible rfl)
  try simp only [Act.put, List.setIfInBounds_toArray, List.set_cons_zero, List.set_cons_succ]
  refine lt_val (v := ?_) 9 (some 2) rfl (by kernel_rfl) (by kernel_rfl) (by kernel_rfl) (fun _ _ _ h => h) rfl rfl (fun w => ?_) ?_
  rotate_left
  · (go_simp; try with_reducible rfl)
  try simp only [Act.put, List.setIfInBounds_toArray, List.set_cons_zero, List.set_cons_succ]
  refine lt_done (by kernel_rfl) ?_ _
  go_wp2_with fail
  go_ret
  exact ⟨rfl, _, rfl⟩
/-- Eight bytes of v, laid at o, the lowest first. -/
def pl (f : Nat → Nat) (o v : Nat) : Nat → Nat := fun j => if o ≤ j ∧ j < o + 8 then v / 256 ^ (j - o) % 256 else f j
theorem pl_pu (f : Nat → Nat) (o v : Nat) (hv : U v) : pu (pu f o (v % 4294967296)) (o + 4) (v / 4294967296) = pl f o v := by
  funext j
  unfold pu pl
  by_cases h : o + 4 ≤ j ∧ j < o + 4 + 4
  · rw [if_pos h, if_pos (by omega)]
    obtain ⟨i, hi, rfl⟩ : ∃ i, i < 4 ∧ j = o + 4 + i := ⟨j - (o + 4), by omega, by omega⟩
    rw [Nat.add_sub_cancel_left, show o + 4 + i - o = 4 + i by omega, Nat.pow_add, ← Nat.div_div_eq_div_mul]
  · rw [if_neg h]
    by_cases h2 : o ≤ j ∧ j < o + 4
    · rw [if_pos h2, if_pos (by omega)]
      obtain ⟨i, hi, rfl⟩ : ∃ i, i < 4 ∧ j = o + i := ⟨j - o, by omega, by omega⟩
      rw [Nat.add_sub_cancel_left]
      have hcs : i = 0 ∨ i = 1 ∨ i = 2 ∨ i = 3 := by omega
      rcases hcs with rfl | rfl | rfl | rfl <;> simp <;> omega
    · rw [if_neg h2, if_neg (by omega)]
set_option maxHeartbeats 8000000 in
set_option maxRecDepth 100000 in
theorem putLong_s (g o n c N : Nat) (f : Nat → Nat) (v : Nat) (T : TypeId) (w : World) (hn : 8 ≤ n) (hc : n ≤ c) (hv : U v) (ho : o + 8 ≤ N) (hb : Blk w g (yC N f) T) :
    Calls Try.prog 63 #[.slice (some ⟨g, o, none⟩) n c, .int .u64 v] w fun e w' => e = .returned (.tuple #[]) ∧ Blk w' g (yC N (pl f o v)) T ∧ Chg w w' [g] := by
  have HP : Hid (pu (pu f o (v % 4294967296)) (o + 4) (v / 4294967296) = pl f o v) := pl_pu f o v hv
  unfold U at hv
  obtain ⟨A, hA⟩ : ∃ A, v % 4294967296 = A := ⟨_, rfl⟩
  obtain ⟨D, hD⟩ : ∃ D, v / 4294967296 = D := ⟨_, rfl⟩
  rw [hA, hD] at HP
  have e1 : IntKind.u32.wrap (v : Int) = (A : Int) := by rw [IntKind.wrap_u32]; omega
  have e2 : (v : Int) / 4294967296 = (D : Int) := by omega
  have e3 : IntKind.u32.wrap (D : Int) = (D : Int) := by rw [IntKind.wrap_u32]; omega
  have HV : Hid ((V A ∧ V D) ∧ o + 8 ≤ N ∧ 8 ≤ n ∧ n ≤ c) := ⟨⟨by unfold V; omega, by unfold V; omega⟩, ho, hn, hc⟩
  have hn4 : (4 : Int) ≤ (n : Int) := by omega
  have hnc : (n : Int) ≤ (c : Int) := by omega
  have hc4 : ¬ c = 4 := by omega
  have vD2 : (D : Int) < 4294967296 := by omega
  clear hA hD hn hc ho
  go_enter Try.func63, Try.ntmps63
  go_wp2_with fail
  refine (putWord4_s g o n c N f A T w (by have := HV.out; omega) HV.out.1.1 (by have := HV.out; omega) hb).mono ?_
  rintro e w1 ⟨rfl, b1, k1⟩
  go_wp2_with fail
  refine (putWord4_s g (o + 4) (n - 4) (c - 4) N (pu f o A) D T w1 (by have := HV.out; omega) HV.out.1.2 (by have := HV.out; omega) b1).mono ?_
  rintro e w2 ⟨rfl, b2, k2⟩
  rw [HP.out] at b2
  go_wp2_with fail
  go_end0
  exact ⟨rfl, b2, k1.trans1 k2⟩

theorem Blk.bs8 {w : World} {g N : Nat} {b : Nat → Nat} {T : TypeId} (h : Blk w g (yC N b) T) (o : Nat) (ho : o + 8 ≤ N) (hb : ∀ i, i < N → b i < 256) : Bs w g o 8 (fun i => b (o + i)) :=
  ⟨h.lt, fun i hi => hb _ (by omega), fun i hi => by rw [h.cell, yC_get _ _ _ (by omega)]⟩
theorem rsdInfo : (Try.prog.info? 110).map (·.size) = some 5 := by kernel_rfl
theorem zeroRsd : (Try.prog.info? 110).bind (·.zero) = some (.agg (vC 5 (fun _ => 0))) := by kernel_rfl
theorem builtR (r : Nat → Nat) : Try.prog.built 110 [(0, .int .u64 ((r 0 : Nat) : Int)), (1, .int .u64 ((r 1 : Nat) : Int)), (2, .int .u64 ((r 2 : Nat) : Int)), (3, .int .u64 ((r 3 : Nat) : Int)), (4, .int .u64 ((r 4 : Nat) : Int))] = some (vC 5 r) := by kernel_rfl
theorem and26 (x : Nat) (h : x < 18446744073709551616) : bits .and .u64 (x : Int) 67108863 = ((x % 67108864 : Nat) : Int) := by
  have h := bits_and_u64_nat x 67108863 h (by omega)
  have e : x &&& 67108863 = x % 67108864 := Nat.and_two_pow_sub_one_eq_mod x 26
  rw [e] at h
  exact h
theorem lb_of (L H T : Nat) (hL : L < 18446744073709551616) (hH : H < 18446744073709551616) (hT : T ≤ 1) :
    lb (L + H * 18446744073709551616 + T * 340282366920938463463374607431768211456) 0 = L % 67108864 ∧ lb (L + H * 18446744073709551616 + T * 340282366920938463463374607431768211456) 1 = L / 67108864 % 67108864 ∧ lb (L + H * 18446744073709551616 + T * 340282366920938463463374607431768211456) 2 = L / 4503599627370496 + H % 16384 * 4096 ∧
    lb (L + H * 18446744073709551616 + T * 340282366920938463463374607431768211456) 3 = H / 16384 % 67108864 ∧ lb (L + H * 18446744073709551616 + T * 340282366920938463463374607431768211456) 4 = H / 1099511627776 + T * 16777216 := by
  unfold lb
  simp only [Nat.pow_zero, Nat.div_one, Nat.reducePow, Nat.pow_one]
  refine ⟨?_, ?_, ?_, ?_, ?_⟩ <;> omega
theorem nle17 (b : Nat → Nat) : nle b 17 = nle b 8 + nle (fun i => b (8 + i)) 8 * 18446744073709551616 + b 16 * 340282366920938463463374607431768211456 := by
  simp [nle]; omega
end Go.Proofs.Ytnopkojpgemldaa
