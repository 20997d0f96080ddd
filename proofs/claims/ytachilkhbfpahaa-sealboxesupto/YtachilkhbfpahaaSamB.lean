/- rimeplain.SameBytes of slices of the same bytes (nil or not). -/
import Derived.Test.YtachilkhbfpahaaGvBytes
set_option linter.unusedVariables false
set_option linter.unusedSimpArgs false
set_option linter.unnecessarySimpa false
namespace Go.Proofs.Ytachilkhbfpahaa
open Go.RowKit

theorem SameBytes_e0 (p p' : Option Addr) (c c' : Nat) (w : World) : Calls Try.prog 14 #[.slice p 0 c, .slice p' 0 c'] w fun e w' => e = .returned (.bool true) ∧ Chg w w' [] := by
  go_enter Try.func14, Try.ntmps14
  go_wp2_with fail
  go_loopw [5] (fun t wr => t = .int .i64 0 ∧ Chg w wr []) (fun _ _ => 0)
  case atStart => exact ⟨rfl, Chg.refl w []⟩
  case round =>
    obtain ⟨rfl, cc⟩ := hrel
    go_wp2_with fail
    go_ret
    exact ⟨rfl, cc⟩
theorem SameBytes_any (v u : Value) (n : Nat) (f : Nat → Nat) (w : World) (hv : Sl w v n f) (hu : Sl w u n f) : Calls Try.prog 14 #[v, u] w fun e w' => e = .returned (.bool true) ∧ Chg w w' [] := by
  by_cases h0 : n = 0
  · subst h0
    have form : ∀ x, Sl w x 0 f → ∃ p c, x = .slice p 0 c := by
      intro x hx
      rcases hx with ⟨_, e⟩ | ⟨g, o, c, e, _⟩
      · exact ⟨_, _, e⟩
      · exact ⟨_, _, e⟩
    obtain ⟨p, c, rfl⟩ := form v hv
    obtain ⟨p', c', rfl⟩ := form u hu
    exact SameBytes_e0 p p' c c' w
  rcases hv with ⟨h, _⟩ | ⟨g, o, c, rfl, hn, hc, hb⟩
  · omega
  rcases hu with ⟨h, _⟩ | ⟨g', o', c', rfl, hn', hc', hb'⟩
  · omega
  refine (SameBytes_g g o c g' o' c' n f f w (by omega) hb hb' (fun _ _ => rfl)).mono ?_
  rintro e w' ⟨rfl, m, rfl⟩
  exact ⟨rfl, (Chg.refl w []).drewN m⟩
theorem Rl.sl {w : World} {v : Value} {n : Nat} {f : Nat → Nat} (h : Rl w 1 v n (bR f)) (hf : ∀ i, i < n → f i < 256) : Sl w v n f := by
  rcases h.2 with h2 | ⟨g, o, cap, e, h1, h2, h3, h4⟩
  · exact Or.inl h2
  · refine Or.inr ⟨g, o, cap, e, h1, h2, h3, hf, fun i hi => ?_⟩
    have q := h4 i hi 0 _ rfl
    rwa [Nat.mul_one, Nat.add_zero] at q
end Go.Proofs.Ytachilkhbfpahaa
