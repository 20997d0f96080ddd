/- Lists of scalars. -/
import Derived.Test.YtcdgkhejbdlapaaLoadAt
import Derived.Test.YtcdgkhejbdlapaaFun2
import Derived.Test.YtcdgkhejbdlapaaByt
set_option linter.unusedVariables false
set_option linter.unusedSimpArgs false
set_option linter.unnecessarySimpa false
namespace Go.Proofs.Ytcdgkhejbdlapaa
open Go.RowKit N

/-- A list of N scalars f. -/
def Ls (w : World) (v : Value) (N : Nat) (f : Nat → Nat) : Prop := (∀ i, i < N → f i < 115792089237316195423570985008687907853269984665640564039457584007913129639936) ∧
  ((N = 0 ∧ v = .slice none 0 0) ∨ ∃ g o cap, v = .slice (some ⟨g, o, none⟩) N cap ∧ N ≤ cap ∧ cap ≤ 9223372036854775807 ∧ g < w.heap.size ∧ ∀ i, i < N → Fc w g (o + i * 32) (f i : Nat))
theorem Ls.chg {w w' : World} {v : Value} {N : Nat} {f : Nat → Nat} {l : List Nat} (h : Ls w v N f) (hc : Chg w w' l) (ho : Off v l) : Ls w' v N f := by
  refine ⟨h.1, ?_⟩
  rcases h.2 with h2 | ⟨g, o, cap, rfl, h1, h2, h3, h4⟩
  · exact Or.inl h2
  · exact Or.inr ⟨g, o, cap, rfl, h1, h2, Nat.lt_of_lt_of_le h3 hc.size, fun i hi => (h4 i hi).chg hc (ho g o N cap rfl)⟩
theorem Ls.form {w : World} {v : Value} {N : Nat} {f : Nat → Nat} (h : Ls w v N f) : ∃ p c, v = .slice p N c ∧ ∀ i, i < N → ∃ g o, p = some ⟨g, o, none⟩ ∧ g < w.heap.size ∧ Fc w g (o + i * 32) (f i : Nat) := by
  rcases h.2 with ⟨rfl, rfl⟩ | ⟨g, o, cap, rfl, h1, h2, h3, h4⟩
  · exact ⟨none, 0, rfl, fun i hi => by omega⟩
  · exact ⟨_, cap, rfl, fun i hi => ⟨g, o, rfl, h3, h4 i hi⟩⟩
theorem mN (N i : Nat) (h : i < N) : (N - intOf (.int .i64 ((i : Int) + 1))).toNat < (N - intOf (.int .i64 (i : Int))).toNat := by simp [intOf]; omega
/-- The product of the first k. -/
def pL (f : Nat → Nat) : Nat → Int
  | 0 => 1
  | k + 1 => pL f k * ((f k : Nat) : Int)
theorem pL_0 (f : Nat → Nat) : pL f 0 = 1 := rfl
theorem pL_s (f : Nat → Nat) (k : Nat) : pL f k % L * (((f k : Nat) : Int) % L) % L = pL f (k + 1) % L := by
  show _ = (pL f k * ((f k : Nat) : Int)) % L
  rw [← Int.mul_emod]
end Go.Proofs.Ytcdgkhejbdlapaa
