/- (*number).carry, (*number).reduce: what they leave in the block. -/
import Derived.Test.YtialljmkkichiabBase
import Derived.Test.YtialljmkkichiabLimb
set_option linter.unusedVariables false
set_option linter.unusedSimpArgs false
set_option linter.unnecessarySimpa false
namespace Go.Proofs.Ytialljmkkichiab
open Go.RowKit N

set_option maxHeartbeats 1000000 in
theorem carry_any (b : Nat) (x0 x1 x2 x3 x4 : Int) (w : World) (hb : NumAt w b x0 x1 x2 x3 x4) (h0 : Wo x0) (h1 : Wo x1) (h2 : Wo x2) (h3 : Wo x3) (h4 : Wo x4) :
    Calls Try.prog 72 #[.pointer (some ⟨b, 0, none⟩)] w fun e w' => e = .returned (.tuple #[]) ∧
      NumAt w' b (x0 % 2251799813685248 + x4 / 2251799813685248 * 19) (x1 % 2251799813685248 + x0 / 2251799813685248) (x2 % 2251799813685248 + x1 / 2251799813685248) (x3 % 2251799813685248 + x2 / 2251799813685248) (x4 % 2251799813685248 + x3 / 2251799813685248) ∧ w.grownBy w' (some b) := by
  obtain ⟨a0, c0⟩ := h0; obtain ⟨a1, c1⟩ := h1; obtain ⟨a2, c2⟩ := h2; obtain ⟨a3, c3⟩ := h3; obtain ⟨a4, c4⟩ := h4
  have k0 := hb.cell 0; have k1 := hb.cell 1; have k2 := hb.cell 2; have k3 := hb.cell 3; have k4 := hb.cell 4
  have f0 := hb.frozen 0; have f1 := hb.frozen 1; have f2 := hb.frozen 2; have f3 := hb.frozen 3; have f4 := hb.frozen 4
  simp at k0 k1 k2 k3 k4
  have m0 := and51 x0 a0 c0; have m1 := and51 x1 a1 c1; have m2 := and51 x2 a2 c2; have m3 := and51 x3 a3 c3; have m4 := and51 x4 a4 c4
  have H := hb
  clear hb
  go_enter Try.func72, Try.ntmps72
  go_wp2
  go_quiet (fail)
  go_wp2
  go_region
  go_wp2
  go_region
  go_wp2
  go_region
  go_wp2
  go_region
  go_wp2
  go_region
  go_wp2
  go_end0
  refine ⟨rfl, ?_, by (repeat (first | with_reducible exact gb_refl _ _ | with_reducible assumption | with_reducible apply gb_drew | with_reducible apply gb_drewN | with_reducible apply gb_set | with_reducible apply gb_alloc))⟩
  unfold NumAt at H ⊢
  exact Blk.to (by (repeat (first | with_reducible assumption | with_reducible exact Blk.new _ _ _ | with_reducible apply Blk.drew | with_reducible apply Blk.drewN | with_reducible apply Blk.setCell | with_reducible apply Blk.alloc))) (by simp)

theorem carry_ex (b : Nat) (x0 x1 x2 x3 x4 : Int) (w : World) (hb : NumAt w b x0 x1 x2 x3 x4) (h0 : Wo x0) (h1 : Wo x1) (h2 : Wo x2) (h3 : Wo x3) (h4 : Wo x4) :
    Calls Try.prog 72 #[.pointer (some ⟨b, 0, none⟩)] w fun e w' => e = .returned (.tuple #[]) ∧
      ∃ y0 y1 y2 y3 y4 : Int, NumAt w' b y0 y1 y2 y3 y4 ∧ w.grownBy w' (some b) ∧ (Lo y0 ∧ Lo y1 ∧ Lo y2 ∧ Lo y3 ∧ Lo y4) ∧ V y0 y1 y2 y3 y4 % P = V x0 x1 x2 x3 x4 % P ∧ 0 ≤ V y0 y1 y2 y3 y4 ∧ V y0 y1 y2 y3 y4 < 2 * P := by
  refine (carry_any b x0 x1 x2 x3 x4 w hb h0 h1 h2 h3 h4).mono ?_
  rintro e w' ⟨he, hn, hg⟩
  refine ⟨he, _, _, _, _, _, hn, hg, ⟨(carry_lo h0 h4).1, (carry_lo h1 h0).2, (carry_lo h2 h1).2, (carry_lo h3 h2).2, (carry_lo h4 h3).2⟩, ?_, (carry_small h0 h1 h2 h3 h4).1, (carry_small h0 h1 h2 h3 h4).2⟩
  rw [carry_val, Int.sub_mul_emod_self_left]
end Go.Proofs.Ytialljmkkichiab
