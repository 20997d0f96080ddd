/- ScalarFermat: the calls with their answers under letters; halving. -/
import Derived.Test.YtcdgkhejbdlapabSfM
import Derived.Test.YtcdgkhejbdlapabSfS
import Derived.Test.YtcdgkhejbdlapabPowN
set_option linter.unusedVariables false
set_option linter.unusedSimpArgs false
set_option linter.unnecessarySimpa false
namespace Go.Proofs.Ytcdgkhejbdlapab
open Go.RowKit N

theorem Power_is (a R : Int) (ra : R256 a) (v : Value) (n : Nat) (f : Nat → Nat) (hn : n ≤ 140737488355328) (hR : pw a (nb f 0 n) = R) (w : World) (hS : Sl w v n f) :
    Calls Try.prog 18 #[fe a, v] w fun e w' => e = .returned (fe R) ∧ Chg w w' [] := by
  subst hR
  exact Power_sl a ra v n f hn _ rfl w hS
theorem Mul_is (a b R : Int) (ra : R256 a) (rb : R256 b) (hR : ml a b = R) (w : World) : Calls Try.prog 9 #[fe a, fe b] w fun e w' => e = .returned (fe R) ∧ Chg w w' [] := by
  subst hR
  exact Mul_o a b ra rb w
theorem Neg_is (a R : Int) (ra : R256 a) (hR : ng a = R) (w : World) : Calls Try.prog 12 #[fe a] w fun e w' => e = .returned (fe R) ∧ Chg w w' [] := by
  subst hR
  exact Neg_o a ra w
theorem Leg_is (a R : Int) (ra : R256 a) (hR : leg a = R) (w : World) : Calls Try.prog 20 #[fe a] w fun e w' => e = .returned (.int .i64 R) ∧ Chg w w' [] := by
  subst hR
  exact Legendre_s a ra w
/-- Invert's answer: the number and the error. -/
theorem Invert_is (a : Int) (ra : R256 a) : ∃ X E : Int, ((E = 0 ∧ X = iv a ∧ a % L ≠ 0) ∨ (E = 9 ∧ a % L = 0)) ∧ ∀ w : World, Calls Try.prog 15 #[fe a] w fun e w' => e = .returned (.tuple #[fe X, .int .i64 E]) ∧ Chg w w' [] := by
  have hz : eqn (a % L) 0 = decide (a % L = 0) := eqn_eq (rl_mod a) ⟨by decide, by decide⟩
  by_cases h : a % L = 0
  · exact ⟨0, 9, Or.inr ⟨rfl, h⟩, fun w => Invert_zero a ra (by rw [hz, h]; rfl) w⟩
  · exact ⟨iv a, 0, Or.inl ⟨rfl, rfl, h⟩, fun w => Invert_o a ra (by show eqn (a % L) 0 = false; rw [hz]; exact decide_eq_false h) w⟩
theorem Own.block {w : World} {base : Nat} {v : Value} {n : Nat} {f : Nat → Nat} (h : Own w base v n f) (hn : 0 < n) :
    ∃ g cap cur, v = .slice (some ⟨g, 0, none⟩) n cap ∧ base ≤ g ∧ n ≤ cap ∧ cap ≤ 9223372036854775807 ∧ Blk w g cur 5 ∧ ∀ i, i < n → cur[i]? = some (.int .u8 (f i)) := by
  obtain ⟨⟨_, h1⟩, _⟩ := h
  rcases h1 with ⟨_, h1⟩ | ⟨g, cap, cur, rfl, hg, hh, hc, hm, hs, ht⟩
  · omega
  · refine ⟨g, cap, cur, rfl, hg, hc, by simpa [maxLen] using hm, hh, fun i hi => ?_⟩
    have e := congrArg (fun l => l[i]?) ht
    simp only [Nat.mul_one] at e
    rw [yL_get n f i hi, List.getElem?_take, if_pos hi] at e
    simpa using e
theorem exec_build {P : Program} {o : Oper} {a : Act} (w : World) (t : TypeId) (parts : Array (Nat × Operand)) (ho : o.op = .build t parts) (cells : Array Value) (hb : P.built t (parts.map fun (i, x) => (i, a.eval x)).toList = some cells) :
    (execOp a.eval o).run P w = .ok (.value (.agg cells)) w := by
  have h := run_build (P := P) w t (parts.map fun (i, x) => (i, a.eval x)) cells hb
  unfold execOp
  simp only [ho, Sem.run_bind, h, Result.andThen_ok, Sem.run_pure]

/-- The root of -1 that is not negative. -/
def S1 : Int := 19681161376707505956807079304988542015446066515923890162744021073123829784752
/-- Byte i halved, with the next one's lowest bit. -/
def hfb (i : Nat) : Nat := if i < 31 then orf 1 i / 2 + 128 * (orf 1 (i + 1) % 2) else orf 1 i / 2
def hfm (k i : Nat) : Nat := if i < k then hfb i else orf 1 i
theorem hfb_lt (i : Nat) : hfb i < 256 := by
  have h := orf_lt 1 i
  unfold hfb; split <;> omega
theorem hfb_nb : nb hfb 0 32 = 3618502788666131106986593281521497120428558179689953803000975469142727125494 := by decide +kernel
theorem orf1_nb : nb (orf 1) 0 32 = 7237005577332262213973186563042994240857116359379907606001950938285454250988 := by decide +kernel
theorem orf2_nb : nb (orf 2) 0 32 = 7237005577332262213973186563042994240857116359379907606001950938285454250987 := by decide +kernel
theorem hf_and : ∀ i : Fin 32, bits .and .u8 ((orf 1 i.val : Nat) : Int) 1 = ((orf 1 i.val % 2 : Nat) : Int) := by decide +kernel
theorem hf_or : ∀ i : Fin 31, bits .or .u8 ((orf 1 i.val / 2 : Nat) : Int) ((128 * (orf 1 (i.val + 1) % 2) : Nat) : Int) = ((hfb i.val : Nat) : Int) := by decide +kernel
/-- The cells of a block are these bytes. -/
def Hc (w : World) (g : Nat) (F : Nat → Nat) : Prop := ∃ cur, Blk w g cur 5 ∧ ∀ i, i < 32 → cur[i]? = some (.int .u8 (F i))
theorem Hc.cell {w : World} {g : Nat} {F : Nat → Nat} (h : Hc w g F) {i : Nat} (hi : i < 32) : w.cell? ⟨g, i, none⟩ = some (.int .u8 (F i)) := by
  obtain ⟨cur, hb, hc⟩ := h
  rw [hb.cell, hc i hi]
theorem Hc.frozen {w : World} {g : Nat} {F : Nat → Nat} (h : Hc w g F) (i : Nat) : w.frozen? ⟨g, i, none⟩ = false := by
  obtain ⟨cur, hb, hc⟩ := h
  exact hb.frozen i
theorem Hc.set {w : World} {g : Nat} {F : Nat → Nat} (h : Hc w g F) (i x : Nat) (hi : i < 32) (G : Nat → Nat) (hG : ∀ j, j < 32 → G j = if j = i then x else F j) : Hc (w.setCell ⟨g, i, none⟩ (.int .u8 (x : Int))) g G := by
  obtain ⟨cur, hb, hc⟩ := h
  refine ⟨_, hb.setCell i _, fun j hj => ?_⟩
  rw [Array.getElem?_setIfInBounds, hG j hj]
  by_cases hji : i = j
  · subst hji
    rw [if_pos rfl, if_pos rfl, if_pos]
    exact (Array.getElem?_eq_some_iff.1 (hc i hi)).1
  · rw [if_neg hji, if_neg (fun e => hji e.symm), hc j hj]
theorem Hc.chg {w w' : World} {g : Nat} {F : Nat → Nat} {l : List Nat} (h : Hc w g F) (hc : Chg w w' l) (hg : ¬ g ∈ l) : Hc w' g F := by
  obtain ⟨cur, hb, hx⟩ := h
  exact ⟨cur, hb.chg hc hg, hx⟩
theorem Hc.lt {w : World} {g : Nat} {F : Nat → Nat} (h : Hc w g F) : g < w.heap.size := by obtain ⟨cur, hb, _⟩ := h; exact hb.lt
theorem Hc.sl {w : World} {g cap : Nat} {F : Nat → Nat} (h : Hc w g F) (hF : ∀ i, i < 32 → F i < 256) (h1 : 32 ≤ cap) (h2 : cap ≤ 9223372036854775807) : Sl w (.slice (some ⟨g, 0, none⟩) 32 cap) 32 F :=
  Or.inr ⟨g, 0, cap, rfl, h1, h2, h.lt, hF, fun i hi => by rw [Nat.zero_add]; exact h.cell hi⟩
theorem Sl.take {w : World} {v : Value} {n : Nat} {f : Nat → Nat} (h : Sl w v n f) (k : Nat) (hk : k < n) : ∃ g o cap, v = .slice (some ⟨g, o, none⟩) n cap ∧ n ≤ cap ∧ cap ≤ 9223372036854775807 ∧ Sl w (.slice (some ⟨g, o, none⟩) k cap) k f := by
  rcases h with ⟨h1, _⟩ | ⟨g, o, cap, rfl, h1, h2, hb⟩
  · omega
  · exact ⟨g, o, cap, rfl, h1, h2, Or.inr ⟨g, o, cap, rfl, by omega, h2, hb.lt, fun i hi => hb.bd i (by omega), fun i hi => hb.cell i (by omega)⟩⟩
end Go.Proofs.Ytcdgkhejbdlapab
