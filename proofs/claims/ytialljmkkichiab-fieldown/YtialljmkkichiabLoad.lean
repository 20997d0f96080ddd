/- (*number).load: 32 bytes as limbs. -/
import Derived.Test.YtialljmkkichiabWord
import Derived.Test.YtialljmkkichiabLimb
set_option linter.unusedVariables false
set_option linter.unusedSimpArgs false
set_option linter.unnecessarySimpa false
namespace Go.Proofs.Ytialljmkkichiab
open Go.RowKit N

theorem load_val (W0 W1 W2 W3 : Int) (h0 : Wo W0) (h1 : Wo W1) (h2 : Wo W2) (h3 : Wo W3) :
    V (W0 % 2251799813685248) ((W0 / 2251799813685248 + W1 * 8192 % 18446744073709551616) % 2251799813685248) ((W1 / 274877906944 + W2 * 67108864 % 18446744073709551616) % 2251799813685248) ((W2 / 33554432 + W3 * 549755813888 % 18446744073709551616) % 2251799813685248) (W3 / 4096)
      = W0 + W1 * 18446744073709551616 + W2 * 340282366920938463463374607431768211456 + W3 * 6277101735386680763835789423207666416102355444464034512896 := by
  obtain ⟨_, _⟩ := h0; obtain ⟨_, _⟩ := h1; obtain ⟨_, _⟩ := h2; obtain ⟨_, _⟩ := h3
  unfold V; omega
theorem words_of (n : Int) (hn0 : 0 ≤ n) (hn1 : n < 115792089237316195423570985008687907853269984665640564039457584007913129639936) :
    n % 18446744073709551616 + n / 18446744073709551616 % 18446744073709551616 * 18446744073709551616 + n / 340282366920938463463374607431768211456 % 18446744073709551616 * 340282366920938463463374607431768211456 + n / 6277101735386680763835789423207666416102355444464034512896 % 18446744073709551616 * 6277101735386680763835789423207666416102355444464034512896 = n := by omega

set_option maxHeartbeats 4000000 in
set_option maxRecDepth 100000 in
theorem load_any (z g : Nat) (n : Int) (x0 x1 x2 x3 x4 : Int) (T : TypeId) (w : World) (hn0 : 0 ≤ n) (hn1 : n < 115792089237316195423570985008687907853269984665640564039457584007913129639936) (hz : NumAt w z x0 x1 x2 x3 x4) (hg : Blk w g (feC n) T) :
    Calls Try.prog 36 #[.pointer (some ⟨z, 0, none⟩), .pointer (some ⟨g, 0, none⟩)] w fun e w' => e = .returned (.tuple #[]) ∧
      ∃ y0 y1 y2 y3 y4 : Int, NumAt w' z y0 y1 y2 y3 y4 ∧ w.grownBy w' (some z) ∧ (Lo y0 ∧ Lo y1 ∧ Lo y2 ∧ Lo y3 ∧ Lo y4) ∧ V y0 y1 y2 y3 y4 = n := by
  have k0 := hz.cell 0; have k1 := hz.cell 1; have k2 := hz.cell 2; have k3 := hz.cell 3; have k4 := hz.cell 4
  have f0 := hz.frozen 0; have f1 := hz.frozen 1; have f2 := hz.frozen 2; have f3 := hz.frozen 3; have f4 := hz.frozen 4
  simp at k0 k1 k2 k3 k4
  go_enter Try.func36, Try.ntmps36
  go_wp2_with fail
  go_quiet (first
    | (go_at_call_of 71 (Value.slice (some ⟨g, 0, none⟩) 8 32); exact Calls.quiet_of (word_fe0 g 32 n T _ (hg.drewN _)))
    | (go_at_call_of 71 (Value.slice (some ⟨g, 8, none⟩) 8 24); exact Calls.quiet_of (word_fe1 g 24 n T _ (hg.drewN _)))
    | (go_at_call_of 71 (Value.slice (some ⟨g, 16, none⟩) 8 16); exact Calls.quiet_of (word_fe2 g 16 n T _ (hg.drewN _)))
    | (go_at_call_of 71 (Value.slice (some ⟨g, 24, none⟩) 8 8); exact Calls.quiet_of (word_fe3 g 8 n T _ (hg.drewN _))))
  go_wp2
  go_end0
  have e := words_of n hn0 hn1
  have b0 : Wo (n % 18446744073709551616) := by unfold Wo; omega
  have b1 : Wo (n / 18446744073709551616 % 18446744073709551616) := by unfold Wo; omega
  have b2 : Wo (n / 340282366920938463463374607431768211456 % 18446744073709551616) := by unfold Wo; omega
  have b3 : Wo (n / 6277101735386680763835789423207666416102355444464034512896 % 18446744073709551616) := by unfold Wo; omega
  clear hg
  generalize n % 18446744073709551616 = W0 at *
  generalize n / 18446744073709551616 % 18446744073709551616 = W1 at *
  generalize n / 340282366920938463463374607431768211456 % 18446744073709551616 = W2 at *
  generalize n / 6277101735386680763835789423207666416102355444464034512896 % 18446744073709551616 = W3 at *
  have r := load_val W0 W1 W2 W3 b0 b1 b2 b3
  obtain ⟨p0, q0⟩ := b0; obtain ⟨p1, q1⟩ := b1; obtain ⟨p2, q2⟩ := b2; obtain ⟨p3, q3⟩ := b3
  rw [IntKind.wrap_u64, IntKind.wrap_u64, IntKind.wrap_u64,
    or_join 13 (W0 / 2251799813685248) (W1 * 8192 % 18446744073709551616) (by decide) (by omega) (by simp only [Int.reducePow]; omega) (by omega) (by omega) (by simp only [Int.reducePow]; omega),
    or_join 26 (W1 / 274877906944) (W2 * 67108864 % 18446744073709551616) (by decide) (by omega) (by simp only [Int.reducePow]; omega) (by omega) (by omega) (by simp only [Int.reducePow]; omega),
    or_join 39 (W2 / 33554432) (W3 * 549755813888 % 18446744073709551616) (by decide) (by omega) (by simp only [Int.reducePow]; omega) (by omega) (by omega) (by simp only [Int.reducePow]; omega),
    and51 W0 (by omega) (by omega), and51 (W0 / 2251799813685248 + W1 * 8192 % 18446744073709551616) (by omega) (by omega), and51 (W1 / 274877906944 + W2 * 67108864 % 18446744073709551616) (by omega) (by omega), and51 (W2 / 33554432 + W3 * 549755813888 % 18446744073709551616) (by omega) (by omega)]
  refine ⟨rfl, _, _, _, _, _, ?_, ?_, ?_, r.trans e⟩
  · unfold NumAt at hz ⊢
    exact Blk.to (by (repeat (first | with_reducible assumption | with_reducible exact Blk.new _ _ _ | with_reducible apply Blk.drew | with_reducible apply Blk.drewN | with_reducible apply Blk.setCell | with_reducible apply Blk.alloc))) (by simp)
  · (repeat (first | with_reducible exact gb_refl _ _ | with_reducible assumption | with_reducible apply gb_drew | with_reducible apply gb_drewN | with_reducible apply gb_set | with_reducible apply gb_alloc))
  · unfold Lo
    refine ⟨⟨?_, ?_⟩, ⟨?_, ?_⟩, ⟨?_, ?_⟩, ⟨?_, ?_⟩, ⟨?_, ?_⟩⟩ <;> omega
end Go.Proofs.Ytialljmkkichiab
