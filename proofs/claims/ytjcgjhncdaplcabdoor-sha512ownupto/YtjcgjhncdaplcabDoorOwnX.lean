/- Slices of the call's own: more. -/
import Derived.Test.YtjcgjhncdaplcabDoorByt
set_option linter.unusedVariables false
set_option linter.unusedSimpArgs false
set_option linter.unnecessarySimpa false
namespace Go.Proofs.YtjcgjhncdaplcabDoor
open Go.RowKit

theorem Own.cong {w : World} {base : Nat} {v : Value} {n : Nat} {f g : Nat → Nat} (h : Own w base v n f) (e : ∀ i, i < n → f i = g i) : Own w base v n g := by
  refine ⟨?_, fun i hi => by rw [← e i hi]; exact h.2 i hi⟩
  have e2 : yL n g = yL n f := by
    unfold yL
    exact List.map_congr_left fun i hi => by rw [e i (by simpa using hi)]
  rw [e2]
  exact h.1
theorem own_len1 {w : World} {base : Nat} {v : Value} {n : Nat} {f : Nat → Nat} (O : Own w base v n f) : ∃ p c, v = .slice p n c := by
  obtain ⟨⟨_, h1⟩, _⟩ := O
  rcases h1 with ⟨rfl, rfl⟩ | ⟨g, cap, cur, rfl, _⟩
  · exact ⟨none, 0, rfl⟩
  · exact ⟨_, _, rfl⟩
/-- The length of a slice. -/
def sln : Value → Nat
  | .slice _ n _ => n
  | _ => 0
theorem one_sl (w : World) (x : Nat) (hx : x < 256) : Sl (w.alloc (.cells #[.int .u8 (x : Int)] 5)) (.slice (some ⟨w.heap.size, 0, none⟩) 1 1) 1 (fun _ => x) := by
  have B := Blk.new w #[.int .u8 (x : Int)] 5
  refine Or.inr ⟨w.heap.size, 0, 1, rfl, Nat.le_refl _, by omega, B.lt, fun _ _ => hx, fun i hi => ?_⟩
  obtain rfl : i = 0 := by omega
  rw [Nat.zero_add, B.cell]
  rfl
theorem own_one (w : World) (x : Nat) (hx : x < 256) : Own (w.alloc (.cells #[.int .u8 (x : Int)] 5)) w.heap.size (.slice (some ⟨w.heap.size, 0, none⟩) 1 1) 1 (fun _ => x) :=
  ⟨⟨by simp [yL], .inr ⟨w.heap.size, 1, #[.int .u8 (x : Int)], rfl, Nat.le_refl _, heap_alloc_new w _, Nat.le_refl _, by simp [maxLen], by simp, by simp [yL]⟩⟩, fun _ _ => hx⟩
end Go.Proofs.YtjcgjhncdaplcabDoor
