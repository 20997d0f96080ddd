/- ShamirBack: the mathematics. -/
import Derived.Test.YtoafcaieifjoiaaGreatMgH
import Derived.Test.YtoafcaieifjoiaaGreatMgO
set_option linter.unusedVariables false
set_option linter.unusedSimpArgs false
set_option linter.unnecessarySimpa false
namespace Go.Proofs.YtoafcaieifjoiaaGreat
open Go.RowKit N

theorem id_ne {d : Nat → Int} {N : Nat} (h : idE d N = 0) : ∀ j, j < N → ¬ zv d j = 0 := fun j hj => by
  haveI := LN_nz
  obtain ⟨q1, q2⟩ := idE_zero h
  refine zv_ne (n := LN) L_LN ?_ (fun i hi e => ?_)
  · intro e
    have h1 := (zq_is0 (n := LN) L_LN (x := 1) ⟨by decide, by decide⟩).1 (by rw [zq_1]; exact e)
    omega
  · have e2 := zq_eq.1 e
    rw [← L_LN, mod_id (id_rl q1 hj), mod_id (id_rl q1 (by omega))] at e2
    have := q2 j i hj (by omega) e2
    omega
theorem kn_no {f : Nat → Int} {i : Nat} {n : Nat} (hn : f i = (n : Int)) (h : ∀ j, j < i → ¬ f j = f i) : kn f i n = false := by
  unfold kn; rw [List.any_eq_false]; intro j hj; have := h j (List.mem_range.1 hj); rw [hn] at this; simpa using this
theorem idE_mk {f : Nat → Int} : ∀ {N : Nat}, (∀ i, i < N → 1 ≤ f i ∧ f i ≤ 255) → (∀ i j, i < N → j < N → f i = f j → i = j) → idE f N = 0
  | 0, _, _ => rfl
  | N + 1, h, hd => by
    have h0 := idE_mk (N := N) (fun i hi => h i (by omega)) (fun i j hi hj => hd i j (by omega) (by omega))
    have hb := h N (by omega)
    obtain ⟨n, hn⟩ : ∃ n : Nat, f N = (n : Int) := ⟨(f N).toNat, by omega⟩
    exact idE_ok h0 hb hn (kn_no hn (fun j hj e => by have := hd j N (by omega) (by omega) e; omega))
theorem ev_cong {f g : Nat → Nat} (x : Int) {T : Nat} (h : ∀ j, j < T → ((f j : Nat) : Int) % L = ((g j : Nat) : Int) % L) : ev f x 0 T = ev g x 0 T := by
  haveI := LN_nz
  have e : zq LN (ev f x 0 T) = zq LN (ev g x 0 T) := by
    rw [zq_ev L_LN, zq_ev L_LN]
    refine Q.pe_congr fun j _ hj => ?_
    rw [zq_eq, ← L_LN]
    exact h j (by omega)
  have e2 := zq_eq.1 e
  rw [← L_LN, mod_id (ev_rl _ _ _ _), mod_id (ev_rl _ _ _ _)] at e2
  exact e2
theorem idE_valsB (f : Nat → Int) : ∀ k, idE f k = 0 ∨ idE f k = 4 ∨ idE f k = 5
  | 0 => Or.inl rfl
  | k + 1 => by
    unfold idE
    rcases idE_valsB f k with h | h | h
    · rw [if_pos h]; split
      · split
        · exact Or.inr (Or.inr rfl)
        · exact Or.inl rfl
      · exact Or.inr (Or.inl rfl)
    · rw [if_neg (by rw [h]; decide)]; exact Or.inr (Or.inl h)
    · rw [if_neg (by rw [h]; decide)]; exact Or.inr (Or.inr h)
theorem idR_wrap (f : Nat → Int) (N : Nat) : IntKind.i64.wrap (idR f N) = idR f N := by
  have h : idR f N = 0 ∨ idR f N = 4 ∨ idR f N = 5 ∨ idR f N = 8 := by
    unfold idR
    split
    · exact Or.inr (Or.inr (Or.inr rfl))
    · rcases idE_valsB f N with h | h | h <;> simp [h]
  rw [IntKind.wrap_i64]
  omega
end Go.Proofs.YtoafcaieifjoiaaGreat
