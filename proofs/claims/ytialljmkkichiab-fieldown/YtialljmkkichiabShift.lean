/- (*number).shift256: 38 times. -/
import Derived.Test.YtialljmkkichiabNm
set_option linter.unusedVariables false
set_option linter.unusedSimpArgs false
set_option linter.unnecessarySimpa false
namespace Go.Proofs.Ytialljmkkichiab
open Go.RowKit N

/-- Limb i, when k limbs have been taken 38 times. -/
def m38 (k i : Nat) (x : Int) : Int := if i < k then x * 38 else x
theorem val38 (x0 x1 x2 x3 x4 : Int) : V (x0 * 38) (x1 * 38) (x2 * 38) (x3 * 38) (x4 * 38) = V x0 x1 x2 x3 x4 * 38 := by unfold V; omega

set_option maxHeartbeats 8000000 in
set_option maxRecDepth 100000 in
theorem shift_nm (z : Nat) (n : Int) (w : World) (hz : Nm w z n) :
    Calls Try.prog 48 #[.pointer (some ⟨z, 0, none⟩)] w fun e w' => e = .returned (.tuple #[]) ∧ Nm w' z (n * 38 % P) ∧ Chg w w' [z] := by
  obtain ⟨x0, x1, x2, x3, x4, hz, ⟨⟨a0, c0⟩, ⟨a1, c1⟩, ⟨a2, c2⟩, ⟨a3, c3⟩, ⟨a4, c4⟩⟩, hv⟩ := hz
  go_enter Try.func48, Try.ntmps48
  go_wp2_with fail
  go_loopw [3] (fun t wr => ∃ k : Nat, k ≤ 5 ∧ t = .int .i64 (k : Int) ∧ NumAt wr z (m38 k 0 x0) (m38 k 1 x1) (m38 k 2 x2) (m38 k 3 x3) (m38 k 4 x4) ∧ w.grownBy wr (some z)) (fun t _ => (5 - intOf t).toNat)
  case atStart => exact ⟨0, by decide, rfl, hz, gb_refl _ _⟩
  case round =>
    obtain ⟨k, hk, rfl, h, hg⟩ := hrel
    clear hz
    have hk5 : k = 0 ∨ k = 1 ∨ k = 2 ∨ k = 3 ∨ k = 4 ∨ k = 5 := by omega
    have k0 := h.cell 0; have k1 := h.cell 1; have k2 := h.cell 2; have k3 := h.cell 3; have k4 := h.cell 4
    have f0 := h.frozen 0; have f1 := h.frozen 1; have f2 := h.frozen 2; have f3 := h.frozen 3; have f4 := h.frozen 4
    simp at k0 k1 k2 k3 k4
    rcases hk5 with rfl | rfl | rfl | rfl | rfl | rfl
    · simp [m38] at h k0 k1 k2 k3 k4
      go_wp2_with fail
      go_region
      go_wp2_with fail
      go_roundw
      case rel =>
        refine ⟨1, by decide, rfl, ?_, by (repeat (first | with_reducible exact gb_refl _ _ | with_reducible assumption | with_reducible apply gb_drew | with_reducible apply gb_drewN | with_reducible apply gb_set | with_reducible apply gb_alloc))⟩
        unfold NumAt at h ⊢
        exact Blk.to (by (repeat (first | with_reducible assumption | with_reducible exact Blk.new _ _ _ | with_reducible apply Blk.drew | with_reducible apply Blk.drewN | with_reducible apply Blk.setCell | with_reducible apply Blk.alloc))) (by simp [m38])
      case measure => simp [intOf]
    · simp [m38] at h k0 k1 k2 k3 k4
      go_wp2_with fail
      go_region
      go_wp2_with fail
      go_roundw
      case rel =>
        refine ⟨2, by decide, rfl, ?_, by (repeat (first | with_reducible exact gb_refl _ _ | with_reducible assumption | with_reducible apply gb_drew | with_reducible apply gb_drewN | with_reducible apply gb_set | with_reducible apply gb_alloc))⟩
        unfold NumAt at h ⊢
        exact Blk.to (by (repeat (first | with_reducible assumption | with_reducible exact Blk.new _ _ _ | with_reducible apply Blk.drew | with_reducible apply Blk.drewN | with_reducible apply Blk.setCell | with_reducible apply Blk.alloc))) (by simp [m38])
      case measure => simp [intOf]
    · simp [m38] at h k0 k1 k2 k3 k4
      go_wp2_with fail
      go_region
      go_wp2_with fail
      go_roundw
      case rel =>
        refine ⟨3, by decide, rfl, ?_, by (repeat (first | with_reducible exact gb_refl _ _ | with_reducible assumption | with_reducible apply gb_drew | with_reducible apply gb_drewN | with_reducible apply gb_set | with_reducible apply gb_alloc))⟩
        unfold NumAt at h ⊢
        exact Blk.to (by (repeat (first | with_reducible assumption | with_reducible exact Blk.new _ _ _ | with_reducible apply Blk.drew | with_reducible apply Blk.drewN | with_reducible apply Blk.setCell | with_reducible apply Blk.alloc))) (by simp [m38])
      case measure => simp [intOf]
    · simp [m38] at h k0 k1 k2 k3 k4
      go_wp2_with fail
      go_region
      go_wp2_with fail
      go_roundw
      case rel =>
        refine ⟨4, by decide, rfl, ?_, by (repeat (first | with_reducible exact gb_refl _ _ | with_reducible assumption | with_reducible apply gb_drew | with_reducible apply gb_drewN | with_reducible apply gb_set | with_reducible apply gb_alloc))⟩
        unfold NumAt at h ⊢
        exact Blk.to (by (repeat (first | with_reducible assumption | with_reducible exact Blk.new _ _ _ | with_reducible apply Blk.drew | with_reducible apply Blk.drewN | with_reducible apply Blk.setCell | with_reducible apply Blk.alloc))) (by simp [m38])
      case measure => simp [intOf]
    · simp [m38] at h k0 k1 k2 k3 k4
      go_wp2_with fail
      go_region
      go_wp2_with fail
      go_roundw
      case rel =>
        refine ⟨5, by decide, rfl, ?_, by (repeat (first | with_reducible exact gb_refl _ _ | with_reducible assumption | with_reducible apply gb_drew | with_reducible apply gb_drewN | with_reducible apply gb_set | with_reducible apply gb_alloc))⟩
        unfold NumAt at h ⊢
        exact Blk.to (by (repeat (first | with_reducible assumption | with_reducible exact Blk.new _ _ _ | with_reducible apply Blk.drew | with_reducible apply Blk.drewN | with_reducible apply Blk.setCell | with_reducible apply Blk.alloc))) (by simp [m38])
      case measure => simp [intOf]
    · simp [m38] at h
      clear k0 k1 k2 k3 k4
      go_wp2_with fail
      refine (carry_ex z (x0 * 38) (x1 * 38) (x2 * 38) (x3 * 38) (x4 * 38) _ h ⟨by omega, by omega⟩ ⟨by omega, by omega⟩ ⟨by omega, by omega⟩ ⟨by omega, by omega⟩ ⟨by omega, by omega⟩).mono ?_
      rintro e w' ⟨rfl, y0, y1, y2, y3, y4, hn, hg', hl, hv', _, _⟩
      go_wp2
      go_end0
      refine ⟨rfl, ⟨y0, y1, y2, y3, y4, hn, hl, ?_⟩, Chg.of (gb_trans hg hg')⟩
      rw [hv', val38, ← hv, Int.mul_emod (V x0 x1 x2 x3 x4 % P), Int.emod_emod_of_dvd _ (Int.dvd_refl P), ← Int.mul_emod]
end Go.Proofs.Ytialljmkkichiab
