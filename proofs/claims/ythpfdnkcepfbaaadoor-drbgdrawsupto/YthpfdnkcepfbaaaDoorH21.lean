/- rimeref03.Compress of 128 bytes; sha512.Constants; == on eight and on eighty words; SameBytes of slices that may be nil. -/
import Derived.Test.YthpfdnkcepfbaaaDoorH20
import Derived.Test.YthpfdnkcepfbaaaDoorH11
import Derived.Test.YthpfdnkcepfbaaaDoorMgI
import Derived.Test.YthpfdnkcepfbaaaDoorMgQ
import Derived.Test.YthpfdnkcepfbaaaDoorH19
set_option linter.unusedVariables false
set_option linter.unusedSimpArgs false
set_option linter.unnecessarySimpa false
namespace Go.Proofs.YthpfdnkcepfbaaaDoor
open Go.RowKit

theorem u64InfoE : ∃ i, Tryd.prog.info? 154 = some i := Option.isSome_iff_exists.1 (by kernel_rfl)
theorem u64CellsE : Tryd.prog.cellsOf 154 = 1 := by kernel_rfl
/-- Are n words the same? -/
def eqw (n : Nat) (f g : Nat → Nat) : Bool := (List.range n).all fun i => ((f i : Nat) : Int) == ((g i : Nat) : Int)
theorem eqw_self (n : Nat) (f : Nat → Nat) : eqw n f f = true := by simp [eqw]
@[go_sem] theorem eq_s8 (f g : Nat → Nat) (w : World) : (Op.equalIn 10000 155 (.agg (vC 8 f)) (.agg (vC 8 g))).run Tryd.prog w = .ok (eqw 8 f g) w := by
  obtain ⟨i, hi⟩ := u64InfoE
  rw [show (10000 : Nat) = 9998 + 1 + 1 from rfl, run_equalIn_array w 9999 _ _ Tryd.underlying155 hi, u64CellsE]
  exact eqItems_ints w 9998 Tryd.underlying154 _ _ (fun i => ((f i : Nat) : Int)) (fun i => ((g i : Nat) : Int)) (List.range 8) (fun j hj => ⟨vC_get 8 f j (by simpa using hj), vC_get 8 g j (by simpa using hj)⟩)
@[go_sem] theorem eq_w80 (f g : Nat → Nat) (w : World) : (Op.equalIn 10000 237 (.agg (vC 80 f)) (.agg (vC 80 g))).run Tryd.prog w = .ok (eqw 80 f g) w := by
  obtain ⟨i, hi⟩ := u64InfoE
  rw [show (10000 : Nat) = 9998 + 1 + 1 from rfl, run_equalIn_array w 9999 _ _ Tryd.underlying237 hi, u64CellsE]
  exact eqItems_ints w 9998 Tryd.underlying154 _ _ (fun i => ((f i : Nat) : Int)) (fun i => ((g i : Nat) : Int)) (List.range 80) (fun j hj => ⟨vC_get 80 f j (by simpa using hj), vC_get 80 g j (by simpa using hj)⟩)
theorem s8Guard : Tryd.prog.eqGuardType Tryd.prog.depth 155 = false := by kernel_rfl
theorem w80Guard : Tryd.prog.eqGuardType Tryd.prog.depth 237 = false := by kernel_rfl
theorem SameBytes_h0 (p p' : Option Addr) (c c' : Nat) (w : World) : Calls Tryd.prog 16 #[.slice p 0 c, .slice p' 0 c'] w fun e w' => e = .returned (.bool true) ∧ Chg w w' [] := by
  go_enter Tryd.func16, Tryd.ntmps16
  go_wp2_with fail
  go_loopw [5] (fun t wr => t = .int .i64 0 ∧ Chg w wr []) (fun _ _ => 0)
  case atStart => exact ⟨rfl, Chg.refl w []⟩
  case round =>
    obtain ⟨rfl, cc⟩ := hrel
    go_wp2_with fail
    go_ret
    exact ⟨rfl, cc⟩
theorem SameBytes_hl (v u : Value) (n : Nat) (f : Nat → Nat) (w : World) (hv : Sl w v n f) (hu : Sl w u n f) : Calls Tryd.prog 16 #[v, u] w fun e w' => e = .returned (.bool true) ∧ Chg w w' [] := by
  by_cases h0 : n = 0
  · subst h0
    have form : ∀ x, Sl w x 0 f → ∃ p c, x = .slice p 0 c := by
      intro x hx
      rcases hx with ⟨_, e⟩ | ⟨g, o, c, e, _⟩
      · exact ⟨_, _, e⟩
      · exact ⟨_, _, e⟩
    obtain ⟨p, c, rfl⟩ := form v hv
    obtain ⟨p', c', rfl⟩ := form u hu
    exact SameBytes_h0 p p' c c' w
  rcases hv with ⟨h, _⟩ | ⟨g, o, c, rfl, hn, hc, hb⟩
  · omega
  rcases hu with ⟨h, _⟩ | ⟨g', o', c', rfl, hn', hc', hb'⟩
  · omega
  refine (SameBytes_g g o c g' o' c' n f f w (by omega) hb hb' (fun _ _ => rfl)).mono ?_
  rintro e w' ⟨rfl, m, rfl⟩
  exact ⟨rfl, (Chg.refl w []).drewN m⟩
end Go.Proofs.YthpfdnkcepfbaaaDoor
