/- Layer 1: (*number).load of 32 bytes at a place within a block. -/
import Derived.Test.YtialljmkkichiabNm
set_option linter.unusedVariables false
set_option linter.unusedSimpArgs false
set_option linter.unnecessarySimpa false
namespace Go.Proofs.Ytialljmkkichiab
open Go.RowKit N

/-- The 32 bytes of n at place o of block g. -/
structure Fc (w : World) (g o : Nat) (n : Int) : Prop where
  lt : g < w.heap.size
  cell : ∀ i, i < 32 → w.cell? ⟨g, o + i, none⟩ = some (.int .u8 (by8 n i))
theorem Fc.chg {w w' : World} {g o : Nat} {n : Int} {l : List Nat} (h : Fc w g o n) (hc : Chg w w' l) (hb : ¬ g ∈ l) : Fc w' g o n := by
  have e := hc.block g h.lt hb
  exact ⟨Nat.lt_of_lt_of_le h.lt hc.size, fun i hi => by rw [← h.cell i hi]; simp [World.cell?, e]⟩
theorem Fc.drewN {w : World} {g o : Nat} {n : Int} (h : Fc w g o n) (m : Nat) : Fc (w.drewN m) g o n := h.chg ((Chg.refl w []).drewN m) (by simp)
theorem Fc.at' {w : World} {g o : Nat} {n : Int} (h : Fc w g o n) (k j : Nat) (hk : k + j < 32) : w.cell? ⟨g, o + k + j, none⟩ = some (.int .u8 (by8 n (k + j))) := by rw [Nat.add_assoc]; exact h.cell _ hk
theorem word_at0 (g o c : Nat) (n : Int) (w : World) (hb : Fc w g o n) :
    Calls Try.prog 71 #[.slice (some ⟨g, o, none⟩) 8 c] w fun e w' => e = .returned (.int .u64 (n / 1 % 18446744073709551616)) ∧ ∃ m, w' = w.drewN m := by
  rw [← w8_0 n]
  exact word_any g o c _ _ _ _ _ _ _ _ w (by8_bd n 0) (by8_bd n 1) (by8_bd n 2) (by8_bd n 3) (by8_bd n 4) (by8_bd n 5) (by8_bd n 6) (by8_bd n 7)
    (by have h := hb.cell 0 (by decide); simpa using h) (hb.cell 1 (by decide)) (hb.cell 2 (by decide)) (hb.cell 3 (by decide)) (hb.cell 4 (by decide)) (hb.cell 5 (by decide)) (hb.cell 6 (by decide)) (hb.cell 7 (by decide))
theorem word_at1 (g o c : Nat) (n : Int) (w : World) (hb : Fc w g o n) :
    Calls Try.prog 71 #[.slice (some ⟨g, o + 8, none⟩) 8 c] w fun e w' => e = .returned (.int .u64 (n / 18446744073709551616 % 18446744073709551616)) ∧ ∃ m, w' = w.drewN m := by
  rw [← w8_1 n]
  exact word_any g (o + 8) c _ _ _ _ _ _ _ _ w (by8_bd n 8) (by8_bd n 9) (by8_bd n 10) (by8_bd n 11) (by8_bd n 12) (by8_bd n 13) (by8_bd n 14) (by8_bd n 15)
    (hb.cell 8 (by decide)) (hb.at' 8 1 (by decide)) (hb.at' 8 2 (by decide)) (hb.at' 8 3 (by decide)) (hb.at' 8 4 (by decide)) (hb.at' 8 5 (by decide)) (hb.at' 8 6 (by decide)) (hb.at' 8 7 (by decide))
theorem word_at2 (g o c : Nat) (n : Int) (w : World) (hb : Fc w g o n) :
    Calls Try.prog 71 #[.slice (some ⟨g, o + 16, none⟩) 8 c] w fun e w' => e = .returned (.int .u64 (n / 340282366920938463463374607431768211456 % 18446744073709551616)) ∧ ∃ m, w' = w.drewN m := by
  rw [← w8_2 n]
  exact word_any g (o + 16) c _ _ _ _ _ _ _ _ w (by8_bd n 16) (by8_bd n 17) (by8_bd n 18) (by8_bd n 19) (by8_bd n 20) (by8_bd n 21) (by8_bd n 22) (by8_bd n 23)
    (hb.cell 16 (by decide)) (hb.at' 16 1 (by decide)) (hb.at' 16 2 (by decide)) (hb.at' 16 3 (by decide)) (hb.at' 16 4 (by decide)) (hb.at' 16 5 (by decide)) (hb.at' 16 6 (by decide)) (hb.at' 16 7 (by decide))
theorem word_at3 (g o c : Nat) (n : Int) (w : World) (hb : Fc w g o n) :
    Calls Try.prog 71 #[.slice (some ⟨g, o + 24, none⟩) 8 c] w fun e w' => e = .returned (.int .u64 (n / 6277101735386680763835789423207666416102355444464034512896 % 18446744073709551616)) ∧ ∃ m, w' = w.drewN m := by
  rw [← w8_3 n]
  exact word_any g (o + 24) c _ _ _ _ _ _ _ _ w (by8_bd n 24) (by8_bd n 25) (by8_bd n 26) (by8_bd n 27) (by8_bd n 28) (by8_bd n 29) (by8_bd n 30) (by8_bd n 31)
    (hb.cell 24 (by decide)) (hb.at' 24 1 (by decide)) (hb.at' 24 2 (by decide)) (hb.at' 24 3 (by decide)) (hb.at' 24 4 (by decide)) (hb.at' 24 5 (by decide)) (hb.at' 24 6 (by decide)) (hb.at' 24 7 (by decide))
set_option maxHeartbeats 4000000 in
set_option maxRecDepth 100000 in
theorem load_anyAt (z g o : Nat) (n : Int) (x0 x1 x2 x3 x4 : Int) (w : World) (hn0 : 0 ≤ n) (hn1 : n < 115792089237316195423570985008687907853269984665640564039457584007913129639936) (hz : NumAt w z x0 x1 x2 x3 x4) (hg : Fc w g o n) :
    Calls Try.prog 36 #[.pointer (some ⟨z, 0, none⟩), .pointer (some ⟨g, o, none⟩)] w fun e w' => e = .returned (.tuple #[]) ∧
      ∃ y0 y1 y2 y3 y4 : Int, NumAt w' z y0 y1 y2 y3 y4 ∧ w.grownBy w' (some z) ∧ (Lo y0 ∧ Lo y1 ∧ Lo y2 ∧ Lo y3 ∧ Lo y4) ∧ V y0 y1 y2 y3 y4 = n := by
  have k0 := hz.cell 0; have k1 := hz.cell 1; have k2 := hz.cell 2; have k3 := hz.cell 3; have k4 := hz.cell 4
  have f0 := hz.frozen 0; have f1 := hz.frozen 1; have f2 := hz.frozen 2; have f3 := hz.frozen 3; have f4 := hz.frozen 4
  simp at k0 k1 k2 k3 k4
  go_enter Try.func36, Try.ntmps36
  go_wp2_with fail
  go_quiet (first
    | (go_at_call 71; with_reducible exact Calls.quiet_of (word_at0 g o 32 n _ (hg.drewN _)))
    | (go_at_call 71; with_reducible exact Calls.quiet_of (word_at1 g o 24 n _ (hg.drewN _)))
    | (go_at_call 71; with_reducible exact Calls.quiet_of (word_at2 g o 16 n _ (hg.drewN _)))
    | (go_at_call 71; with_reducible exact Calls.quiet_of (word_at3 g o 8 n _ (hg.drewN _))))
  go_wp2
  go_end0
  have e := words_of n hn0 hn1
  have b0 : Wo (n % 18446744073709551616) := by unfold Wo; omega
  have b1 : Wo (n / 18446744073709551616 % 18446744073709551616) := by unfold Wo; omega
  have b2 : Wo (n / 340282366920938463463374607431768211456 % 18446744073709551616) := by unfold Wo; omega
  have b3 : Wo (n / 6277101735386680763835789423207666416102355444464034512896 % 18446744073709551616) := by unfold Wo; omega
  clear hg
  generalize n % 18446744073709551616 = W0 at *
  generalize n / 18446744073709551616 % 18446744073709551616 = W1 at *
  generalize n / 340282366920938463463374607431768211456 % 18446744073709551616 = W2 at *
  generalize n / 6277101735386680763835789423207666416102355444464034512896 % 18446744073709551616 = W3 at *
  have r := load_val W0 W1 W2 W3 b0 b1 b2 b3
  obtain ⟨p0, q0⟩ := b0; obtain ⟨p1, q1⟩ := b1; obtain ⟨p2, q2⟩ := b2; obtain ⟨p3, q3⟩ := b3
  rw [IntKind.wrap_u64, IntKind.wrap_u64, IntKind.wrap_u64,
    or_join 13 (W0 / 2251799813685248) (W1 * 8192 % 18446744073709551616) (by decide) (by omega) (by simp only [Int.reducePow]; omega) (by omega) (by omega) (by simp only [Int.reducePow]; omega),
    or_join 26 (W1 / 274877906944) (W2 * 67108864 % 18446744073709551616) (by decide) (by omega) (by simp only [Int.reducePow]; omega) (by omega) (by omega) (by simp only [Int.reducePow]; omega),
    or_join 39 (W2 / 33554432) (W3 * 549755813888 % 18446744073709551616) (by decide) (by omega) (by simp only [Int.reducePow]; omega) (by omega) (by omega) (by simp only [Int.reducePow]; omega),
    and51 W0 (by omega) (by omega), and51 (W0 / 2251799813685248 + W1 * 8192 % 18446744073709551616) (by omega) (by omega), and51 (W1 / 274877906944 + W2 * 67108864 % 18446744073709551616) (by omega) (by omega), and51 (W2 / 33554432 + W3 * 549755813888 % 18446744073709551616) (by omega) (by omega)]
  refine ⟨rfl, _, _, _, _, _, ?_, ?_, ?_, r.trans e⟩
  · unfold NumAt at hz ⊢
    exact Blk.to (by (repeat (first | with_reducible assumption | with_reducible exact Blk.new _ _ _ | with_reducible apply Blk.drew | with_reducible apply Blk.drewN | with_reducible apply Blk.setCell | with_reducible apply Blk.alloc))) (by simp)
  · (repeat (first | with_reducible exact gb_refl _ _ | with_reducible assumption | with_reducible apply gb_drew | with_reducible apply gb_drewN | with_reducible apply gb_set | with_reducible apply gb_alloc))
  · unfold Lo
    refine ⟨⟨?_, ?_⟩, ⟨?_, ?_⟩, ⟨?_, ?_⟩, ⟨?_, ?_⟩, ⟨?_, ?_⟩⟩ <;> omega
theorem load_at (z g o : Nat) (n : Int) (w : World) (hn0 : 0 ≤ n) (hn1 : n < 115792089237316195423570985008687907853269984665640564039457584007913129639936) (hz : An w z) (hg : Fc w g o n) :
    Calls Try.prog 36 #[.pointer (some ⟨z, 0, none⟩), .pointer (some ⟨g, o, none⟩)] w fun e w' => e = .returned (.tuple #[]) ∧ Nm w' z (n % P) ∧ Chg w w' [z] := by
  obtain ⟨x0, x1, x2, x3, x4, hz⟩ := hz
  refine (load_anyAt z g o n x0 x1 x2 x3 x4 w hn0 hn1 hz hg).mono ?_
  rintro e w' ⟨he, y0, y1, y2, y3, y4, hn, hg, hl, hv⟩
  exact ⟨he, ⟨y0, y1, y2, y3, y4, hn, hl, by rw [hv]⟩, Chg.of hg⟩
end Go.Proofs.Ytialljmkkichiab
