/- Bytes in memory. -/
import Derived.Test.YtjppbngimacgnaaGreatDoorG
set_option linter.unusedVariables false
set_option linter.unusedSimpArgs false
set_option linter.unnecessarySimpa false
namespace Go.Proofs.YtjppbngimacgnaaGreatDoor
open Go.RowKit

/-- len bytes b at place o of block g. -/
structure Bs (w : World) (g o len : Nat) (b : Nat → Nat) : Prop where
  lt : g < w.heap.size
  bd : ∀ i, i < len → b i < 256
  cell : ∀ i, i < len → w.cell? ⟨g, o + i, none⟩ = some (.int .u8 ((b i : Nat) : Int))
theorem Bs.chg {w w' : World} {g o len : Nat} {b : Nat → Nat} {ch : List Nat} (h : Bs w g o len b) (hc : Chg w w' ch) (hb : ¬ g ∈ ch) : Bs w' g o len b := by
  have e := hc.block g h.lt hb
  exact ⟨Nat.lt_of_lt_of_le h.lt hc.size, h.bd, fun i hi => by rw [← h.cell i hi]; simp [World.cell?, e]⟩
theorem Bs.alloc {w : World} {g o len : Nat} {b : Nat → Nat} (h : Bs w g o len b) (x : Obj) : Bs (w.alloc x) g o len b := h.chg ((Chg.refl w []).alloc x) (by simp)
/-- A part of them. -/
theorem Bs.sub {w : World} {g o len : Nat} {b : Nat → Nat} (h : Bs w g o len b) (i n : Nat) (hi : i + n ≤ len) : Bs w g (o + i) n (fun j => b (i + j)) :=
  ⟨h.lt, fun j hj => h.bd _ (by omega), fun j hj => by rw [Nat.add_assoc]; exact h.cell _ (by omega)⟩
theorem Bs.drew {w : World} {g o len : Nat} {b : Nat → Nat} (h : Bs w g o len b) : Bs w.drew g o len b := h.chg (Chg.refl w []).drew (by simp)
theorem Bs.drewN {w : World} {g o len : Nat} {b : Nat → Nat} (h : Bs w g o len b) (n : Nat) : Bs (w.drewN n) g o len b := h.chg ((Chg.refl w []).drewN n) (by simp)
end Go.Proofs.YtjppbngimacgnaaGreatDoor
