/- rimeplain.SameBytes of any two. -/
import Derived.Test.YtnopkojpgemldaaSeZc
set_option linter.unusedVariables false
set_option linter.unusedSimpArgs false
set_option linter.unnecessarySimpa false
namespace Go.Proofs.Ytnopkojpgemldaa
open Go.RowKit

/-- Are two lists of bytes the same? -/
def sameB (n0 : Nat) (f0 : Nat → Nat) (n1 : Nat) (f1 : Nat → Nat) : Bool := decide (n0 = n1) && eqn n0 f0 f1
theorem sameB_self {n : Nat} {f g : Nat → Nat} (h : ∀ i, i < n → f i = g i) : sameB n f n g = true := by
  unfold sameB
  rw [(eqn_iff n f g).2 h]
  simp
set_option maxHeartbeats 4000000 in
set_option maxRecDepth 100000 in
theorem SameBytes_z (v0 : Value) (n0 : Nat) (f0 : Nat → Nat) (v1 : Value) (n1 : Nat) (f1 : Nat → Nat) (w : World) (h0 : Sz w v0 n0 f0) (h1 : Sz w v1 n1 f1) :
    Calls Try.prog 12 #[v0, v1] w fun e w' => e = .returned (.bool (sameB n0 f0 n1 f1)) ∧ Chg w w' [] := by
  have HL : Hid (n0 ≤ 9223372036854775807) := by obtain ⟨p, c, rfl, a, b, _⟩ := h0; show n0 ≤ 9223372036854775807; omega
  obtain ⟨p0, c0, rfl, _, _, b0⟩ := h0
  obtain ⟨p1, c1, rfl, _, _, b1⟩ := h1
  by_cases hn : n0 = n1
  · subst hn
    have HY : Hid ((∀ i, i < n0 → f0 i = f1 i) → sameB n0 f0 n0 f1 = true) := sameB_self
    have HN : Hid (∀ i, i < n0 → ¬ f0 i = f1 i → sameB n0 f0 n0 f1 = false) := fun i hi h => by
      unfold sameB
      rw [eqn_no (fun q => h (q i hi))]
      simp
    obtain ⟨b, hb⟩ : ∃ b, sameB n0 f0 n0 f1 = b := ⟨_, rfl⟩
    rw [hb] at HY HN ⊢
    clear hb
    have HB : Hid (0 < n0 → (∃ g o, p0 = some ⟨g, o, none⟩ ∧ Bs w g o n0 f0) ∧ ∃ g o, p1 = some ⟨g, o, none⟩ ∧ Bs w g o n0 f1) := fun h => ⟨b0 h, b1 h⟩
    clear b0 b1
    go_enter Try.func12, Try.ntmps12
    go_wp2_with fail
    go_loopw [5] (fun t wr => ∃ i : Nat, (i ≤ n0 ∧ ∀ j, j < i → f0 j = f1 j) ∧ t = .int .i64 (i : Int) ∧ ∃ m, wr = w.drewN m) (fun t _ => ((n0 : Int) - intOf t).toNat)
    case atStart => exact ⟨0, ⟨by omega, fun j hj => by omega⟩, rfl, 0, rfl⟩
    case round =>
      obtain ⟨i, ⟨hi, hall⟩, rfl, q, rfl⟩ := hrel
      have HA : Hid (∀ j, j < i → f0 j = f1 j) := hall
      clear hall
      by_cases h8 : i < n0
      · have hI : (i : Int) < (n0 : Int) := by omega
        obtain ⟨⟨g0, o0, rfl, hb0⟩, g1, o1, rfl, hb1⟩ := HB.out (by omega)
        have c1 := hb0.cell i h8
        have c2 := hb1.cell i h8
        have e1 : IntKind.i64.wrap ((i : Int) + 1) = (i : Int) + 1 := by have := HL.out; rw [IntKind.wrap_i64]; omega
        by_cases hx : f0 i = f1 i
        · have HA2 : Hid (∀ j, j < i + 1 → f0 j = f1 j) := fun j hj => by
            by_cases hji : j = i
            · subst hji; exact hx
            · exact HA.out j (by omega)
          rw [← hx] at c2
          clear hx hb0 hb1
          generalize f0 i = x at *
          go_wp2_with fail
          go_quiet (fail)
          go_wp2_with fail
          exact ⟨⟨i + 1, ⟨by omega, HA2.out⟩, by go_num, _, rfl⟩, by simp [intOf]; omega⟩
        · have HF := HN.out i h8 hx
          clear hb0 hb1
          obtain ⟨x, hx1⟩ : ∃ x, f0 i = x := ⟨_, rfl⟩
          obtain ⟨y, hy1⟩ : ∃ y, f1 i = y := ⟨_, rfl⟩
          rw [hx1] at c1 hx
          rw [hy1] at c2 hx
          have hxy : ¬ (x : Int) = (y : Int) := by omega
          clear hx hx1 hy1
          subst HF
          go_wp2_with fail
          go_quiet (fail)
          go_wp2_with fail
          go_ret
          exact ⟨rfl, ((Chg.refl w []).drewN q).drewN _⟩
      · have hI : ¬ (i : Int) < (n0 : Int) := by omega
        have HT := HY.out (fun j hj => HA.out j (by omega))
        subst HT
        go_wp2_with fail
        go_ret
        exact ⟨rfl, (Chg.refl w []).drewN q⟩
  · have hI : ¬ (n0 : Int) = (n1 : Int) := by omega
    have HF : sameB n0 f0 n1 f1 = false := by unfold sameB; simp [hn]
    rw [HF]
    clear HF hn b0 b1
    go_enter Try.func12, Try.ntmps12
    go_wp2_with fail
    go_ret
    exact ⟨rfl, Chg.refl w []⟩
end Go.Proofs.Ytnopkojpgemldaa
