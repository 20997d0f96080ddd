/- scalar.Compare. -/
import Derived.Test.YthpfdnkcepfbaaaDoorDec
set_option linter.unusedVariables false
set_option linter.unusedSimpArgs false
set_option linter.unnecessarySimpa false
namespace Go.Proofs.YthpfdnkcepfbaaaDoor
open Go.RowKit N

theorem cmp_words (n m : Int) (p : Nat) (rn : RL n) (rm : RL m) (hp : p < 4) (hq : ∀ j, j < 4 → p < j → wrd n j = wrd m j) (hE : ¬ wrd n p = wrd m p) : cmpI (wrd n p) (wrd m p) = cmpI n m := by
  have e1 := wrd_sum n rn.1 (by unfold RL at rn; omega)
  have e2 := wrd_sum m rm.1 (by unfold RL at rm; omega)
  have p0 := wrd_wo n 0; have p1 := wrd_wo n 1; have p2 := wrd_wo n 2; have p3 := wrd_wo n 3
  have q0 := wrd_wo m 0; have q1 := wrd_wo m 1; have q2 := wrd_wo m 2; have q3 := wrd_wo m 3
  unfold cmpI
  have h4 : p = 0 ∨ p = 1 ∨ p = 2 ∨ p = 3 := by omega
  have h1 := hq 1 (by omega); have h2 := hq 2 (by omega); have h3 := hq 3 (by omega)
  clear hq
  unfold Wo at *
  rcases h4 with rfl | rfl | rfl | rfl <;> simp only [Nat.lt_irrefl, Nat.lt_add_one, Nat.zero_lt_succ, Nat.reduceLT, forall_const] at h1 h2 h3 <;>
  · generalize wrd n 0 = a0 at *; generalize wrd n 1 = a1 at *; generalize wrd n 2 = a2 at *; generalize wrd n 3 = a3 at *
    generalize wrd m 0 = b0 at *; generalize wrd m 1 = b1 at *; generalize wrd m 2 = b2 at *; generalize wrd m 3 = b3 at *
    split <;> split <;> (try split) <;> (try split) <;> omega
end Go.Proofs.YthpfdnkcepfbaaaDoor
