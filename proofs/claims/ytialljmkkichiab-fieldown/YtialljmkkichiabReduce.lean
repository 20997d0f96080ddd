/- (*number).reduce: the limbs of the canonical number. -/
import Derived.Test.YtialljmkkichiabCarry
set_option linter.unusedVariables false
set_option linter.unusedSimpArgs false
set_option linter.unnecessarySimpa false
namespace Go.Proofs.Ytialljmkkichiab
open Go.RowKit N

set_option maxHeartbeats 4000000 in
set_option maxRecDepth 100000 in
theorem reduce_any (b : Nat) (x0 x1 x2 x3 x4 : Int) (w : World) (hb : NumAt w b x0 x1 x2 x3 x4) (h0 : Wo x0) (h1 : Wo x1) (h2 : Wo x2) (h3 : Wo x3) (h4 : Wo x4) :
    Calls Try.prog 47 #[.pointer (some ⟨b, 0, none⟩)] w fun e w' => e = .returned (.tuple #[]) ∧
      ∃ y0 y1 y2 y3 y4 : Int, NumAt w' b y0 y1 y2 y3 y4 ∧ w.grownBy w' (some b) ∧ (Li y0 ∧ Li y1 ∧ Li y2 ∧ Li y3 ∧ Li y4) ∧ V y0 y1 y2 y3 y4 = V x0 x1 x2 x3 x4 % P := by
  go_enter Try.func47, Try.ntmps47
  go_wp2_with fail
  refine (carry_ex b x0 x1 x2 x3 x4 w hb h0 h1 h2 h3 h4).mono ?_
  rintro e w1 ⟨rfl, y0, y1, y2, y3, y4, hn, hg, ⟨⟨a0, c0⟩, ⟨a1, c1⟩, ⟨a2, c2⟩, ⟨a3, c3⟩, ⟨a4, c4⟩⟩, hv, hv0, hv1⟩
  have k0 := hn.cell 0; have k1 := hn.cell 1; have k2 := hn.cell 2; have k3 := hn.cell 3; have k4 := hn.cell 4
  have f0 := hn.frozen 0; have f1 := hn.frozen 1; have f2 := hn.frozen 2; have f3 := hn.frozen 3; have f4 := hn.frozen 4
  simp at k0 k1 k2 k3 k4
  have HV : Hid (V y0 y1 y2 y3 y4 % P = V x0 x1 x2 x3 x4 % P) := hv
  have HV1 : Hid (0 ≤ V y0 y1 y2 y3 y4 ∧ V y0 y1 y2 y3 y4 < 2 * P) := ⟨hv0, hv1⟩
  clear hv hv0 hv1 hb
  go_wp2
  go_region
  go_wp2
  go_end0
  have ho2 := over_val HV1.out.2 HV1.out.1
  obtain ⟨o, ho⟩ : ∃ o, o = (y4 + (y3 + (y2 + (y1 + (y0 + 19) / 2251799813685248) / 2251799813685248) / 2251799813685248) / 2251799813685248) / 2251799813685248 := ⟨_, rfl⟩
  rw [← ho] at ho2 ⊢
  have bo : 0 ≤ o ∧ o ≤ 1 := by rw [ho2]; split <;> decide
  clear ho
  have r := reduce_val HV1.out.2 HV1.out.1 ho2
  rw [and51 (y0 + 19 * o) (by omega) (by omega), and51 (y1 + (y0 + 19 * o) / 2251799813685248) (by omega) (by omega), and51 (y2 + (y1 + (y0 + 19 * o) / 2251799813685248) / 2251799813685248) (by omega) (by omega),
    and51 (y3 + (y2 + (y1 + (y0 + 19 * o) / 2251799813685248) / 2251799813685248) / 2251799813685248) (by omega) (by omega), and51 (y4 + (y3 + (y2 + (y1 + (y0 + 19 * o) / 2251799813685248) / 2251799813685248) / 2251799813685248) / 2251799813685248) (by omega) (by omega)]
  refine ⟨rfl, _, _, _, _, _, ?_, ?_, ?_, r.trans HV.out⟩
  · unfold NumAt at hn ⊢
    exact Blk.to (by (repeat (first | with_reducible assumption | with_reducible exact Blk.new _ _ _ | with_reducible apply Blk.drew | with_reducible apply Blk.drewN | with_reducible apply Blk.setCell | with_reducible apply Blk.alloc))) (by simp)
  · (repeat (first | with_reducible exact gb_refl _ _ | with_reducible assumption | with_reducible apply gb_drew | with_reducible apply gb_drewN | with_reducible apply gb_set | with_reducible apply gb_alloc))
  · unfold Li
    refine ⟨⟨?_, ?_⟩, ⟨?_, ?_⟩, ⟨?_, ?_⟩, ⟨?_, ?_⟩, ⟨?_, ?_⟩⟩
    all_goals first | exact Int.emod_nonneg _ (by decide) | exact Int.emod_lt_of_pos _ (by decide)
end Go.Proofs.Ytialljmkkichiab
