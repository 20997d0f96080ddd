/- wire: two messages that may be have one frame just if they are one in what their kinds use. -/
import Derived.Test.YtgfeopingompdaaGreatDoorMwF
import Derived.Test.YtgfeopingompdaaGreatDoorW50t
set_option linter.unusedVariables false
set_option linter.unusedSimpArgs false
set_option linter.unnecessarySimpa false
namespace Go.Proofs.YtgfeopingompdaaGreatDoor
open Go.RowKit

theorem catCg {f f' g g' : Nat → Nat} {n k : Nat} (h1 : ∀ i, i < n → f i = f' i) (h2 : ∀ i, i < k → g i = g' i) : ∀ i, i < n + k → cat f n g i = cat f' n g' i := fun i hi => by
  unfold cat
  by_cases h : i < n
  · rw [if_pos h, if_pos h]; exact h1 i h
  · rw [if_neg h, if_neg h]; exact h2 _ (by omega)
theorem cmCg {d d' : Nat} {h h' b b' : Nat → Nat} (h0 : d = d') (h1 : ∀ i, i < 32 → h i = h' i) (h2 : ∀ i, i < 32 → b i = b' i) : ∀ j, j < 65 → cmB d h b j = cmB d' h' b' j := fun j hj => by
  unfold cmB
  by_cases a : j = 0
  · rw [if_pos a, if_pos a, h0]
  rw [if_neg a, if_neg a]
  by_cases c : j < 33
  · rw [if_pos c, if_pos c]; exact h1 _ (by omega)
  · rw [if_neg c, if_neg c]; exact h2 _ (by omega)
def uK (m : Ms) (N : Nat) : Nat := if m.kind = 3 then N else 0
theorem us_1 {m : Ms} (k : m.kind = 1) : usM m = us0 m := by unfold usM; rw [if_pos (Or.inl k)]
theorem us_3 {m : Ms} (k : m.kind = 3) : usM m = us0 m := by unfold usM; rw [if_pos (Or.inr k)]
theorem us_2 {m : Ms} (k : m.kind = 2) : usM m = { us0 m with id := m.id, hid := m.hid, bnd := m.bnd } := by unfold usM; rw [if_neg (by omega), if_pos k]
theorem us_4 {m : Ms} (k : m.kind = 4) : usM m = { us0 m with id := m.id, hid := m.hid, bnd := m.bnd, bind := m.bind, share := m.share } := by unfold usM; rw [if_neg (by omega), if_neg (by omega), if_pos k]
theorem us_5 {m : Ms} (k : m.kind = 5) : usM m = { us0 m with code := m.code } := by unfold usM; rw [if_neg (by omega), if_neg (by omega), if_neg (by omega), if_pos k]
theorem us_6 {m : Ms} (k : m.kind = 6) : usM m = { us0 m with sig := m.sig } := by unfold usM; rw [if_neg (by omega), if_neg (by omega), if_neg (by omega), if_neg (by omega)]
theorem us_kind (m : Ms) : (usM m).kind = m.kind := by unfold usM; repeat' split
                                                       all_goals rfl
/-- Two messages are one in what their kinds use. -/
def SmU (m : Ms) (N : Nat) (d : Nat → Int) (h b : Nat → Nat → Nat) (M : Nat) (ft : Nat → Nat) (m' : Ms) (N' : Nat) (d' : Nat → Int) (h' b' : Nat → Nat → Nat) (M' : Nat) (ft' : Nat → Nat) : Prop :=
  m.kind = m'.kind ∧ (∀ i, i < 32 → m.ses i = m'.ses i) ∧ m.fr = m'.fr ∧ m.to = m'.to ∧ ((m.kind = 2 ∨ m.kind = 4) → m.id = m'.id ∧ (∀ i, i < 32 → m.hid i = m'.hid i) ∧ ∀ i, i < 32 → m.bnd i = m'.bnd i) ∧
    (m.kind = 4 → (∀ i, i < 32 → m.bind i = m'.bind i) ∧ ∀ i, i < 32 → m.share i = m'.share i) ∧ (m.kind = 5 → m.code = m'.code) ∧ (m.kind = 6 → ∀ i, i < 64 → m.sig i = m'.sig i) ∧
    (m.kind = 3 → N = N' ∧ (∀ i, i < N → d i = d' i ∧ (∀ j, j < 32 → h i j = h' i j) ∧ ∀ j, j < 32 → b i j = b' i j) ∧ M = M' ∧ ∀ i, i < M → ft i = ft' i)
theorem eqM_smU (m : Ms) (N : Nat) (d : Nat → Int) (h b : Nat → Nat → Nat) (M : Nat) (ft : Nat → Nat) (m' : Ms) (N' : Nat) (d' : Nat → Int) (h' b' : Nat → Nat → Nat) (M' : Nat) (ft' : Nat → Nat) (hk6 : 1 ≤ m.kind ∧ m.kind ≤ 6) : eqM (usM m) (uK m N) d h b (uK m M) ft (usM m') (uK m' N') d' h' b' (uK m' M') ft' = true ↔ SmU m N d h b M ft m' N' d' h' b' M' ft' := by
  constructor
  · intro q
    have hk : m.kind = m'.kind := by
      have := eq_of_beq ((eqM_iff (usM m) (uK m N) d h b (uK m M) ft (usM m') (uK m' N') d' h' b' (uK m' M') ft').1 q).1
      rwa [us_kind, us_kind] at this
    revert q
    obtain k | k | k | k | k | k : m.kind = 1 ∨ m.kind = 2 ∨ m.kind = 3 ∨ m.kind = 4 ∨ m.kind = 5 ∨ m.kind = 6 := by omega
    · have k' := hk.symm.trans k
      rw [us_1 k, us_1 k', show uK m N = 0 from if_neg (by omega), show uK m M = 0 from if_neg (by omega), show uK m' N' = 0 from if_neg (by omega), show uK m' M' = 0 from if_neg (by omega)]
      intro q
      obtain ⟨q0, q1, q2, q3, q4, q5, q6, q7, q8, q9, q10⟩ := (eqM_iff _ _ _ _ _ _ _ _ _ _ _ _ _ _).1 q
      exact ⟨hk, (eqnW_iff _ _ _).1 q1, eq_of_beq q2, eq_of_beq q3, fun q => by omega, fun q => by omega, fun q => by omega, fun q => by omega, fun q => by omega⟩
    · have k' := hk.symm.trans k
      rw [us_2 k, us_2 k', show uK m N = 0 from if_neg (by omega), show uK m M = 0 from if_neg (by omega), show uK m' N' = 0 from if_neg (by omega), show uK m' M' = 0 from if_neg (by omega)]
      intro q
      obtain ⟨q0, q1, q2, q3, q4, q5, q6, q7, q8, q9, q10⟩ := (eqM_iff _ _ _ _ _ _ _ _ _ _ _ _ _ _).1 q
      exact ⟨hk, (eqnW_iff _ _ _).1 q1, eq_of_beq q2, eq_of_beq q3, fun _ => (eqCm_iff _ _ _ _ _ _).1 q4, fun q => by omega, fun q => by omega, fun q => by omega, fun q => by omega⟩
    · have k' := hk.symm.trans k
      rw [us_3 k, us_3 k', show uK m N = N from if_pos k, show uK m M = M from if_pos k, show uK m' N' = N' from if_pos k', show uK m' M' = M' from if_pos k']
      intro q
      obtain ⟨q0, q1, q2, q3, q4, q5, q6, q7, q8, q9, q10⟩ := (eqM_iff _ _ _ _ _ _ _ _ _ _ _ _ _ _).1 q
      exact ⟨hk, (eqnW_iff _ _ _).1 q1, eq_of_beq q2, eq_of_beq q3, fun q => by omega, fun q => by omega, fun q => by omega, fun q => by omega, fun _ => ⟨((eqCl_iff _ _ _ _ _ _ _ _).1 q5).1, fun i hi => (eqCm_iff _ _ _ _ _ _).1 (((eqCl_iff _ _ _ _ _ _ _ _).1 q5).2 i hi), ((eqB_iff _ _ _ _).1 q6).1, ((eqB_iff _ _ _ _).1 q6).2⟩⟩
    · have k' := hk.symm.trans k
      rw [us_4 k, us_4 k', show uK m N = 0 from if_neg (by omega), show uK m M = 0 from if_neg (by omega), show uK m' N' = 0 from if_neg (by omega), show uK m' M' = 0 from if_neg (by omega)]
      intro q
      obtain ⟨q0, q1, q2, q3, q4, q5, q6, q7, q8, q9, q10⟩ := (eqM_iff _ _ _ _ _ _ _ _ _ _ _ _ _ _).1 q
      exact ⟨hk, (eqnW_iff _ _ _).1 q1, eq_of_beq q2, eq_of_beq q3, fun _ => (eqCm_iff _ _ _ _ _ _).1 q4, fun _ => ⟨(eqnW_iff _ _ _).1 q7, (eqnW_iff _ _ _).1 q8⟩, fun q => by omega, fun q => by omega, fun q => by omega⟩
    · have k' := hk.symm.trans k
      rw [us_5 k, us_5 k', show uK m N = 0 from if_neg (by omega), show uK m M = 0 from if_neg (by omega), show uK m' N' = 0 from if_neg (by omega), show uK m' M' = 0 from if_neg (by omega)]
      intro q
      obtain ⟨q0, q1, q2, q3, q4, q5, q6, q7, q8, q9, q10⟩ := (eqM_iff _ _ _ _ _ _ _ _ _ _ _ _ _ _).1 q
      exact ⟨hk, (eqnW_iff _ _ _).1 q1, eq_of_beq q2, eq_of_beq q3, fun q => by omega, fun q => by omega, fun _ => eq_of_beq q10, fun q => by omega, fun q => by omega⟩
    · have k' := hk.symm.trans k
      rw [us_6 k, us_6 k', show uK m N = 0 from if_neg (by omega), show uK m M = 0 from if_neg (by omega), show uK m' N' = 0 from if_neg (by omega), show uK m' M' = 0 from if_neg (by omega)]
      intro q
      obtain ⟨q0, q1, q2, q3, q4, q5, q6, q7, q8, q9, q10⟩ := (eqM_iff _ _ _ _ _ _ _ _ _ _ _ _ _ _).1 q
      exact ⟨hk, (eqnW_iff _ _ _).1 q1, eq_of_beq q2, eq_of_beq q3, fun q => by omega, fun q => by omega, fun q => by omega, fun _ => (eqnW_iff _ _ _).1 q9, fun q => by omega⟩
  · rintro ⟨hk, r1, r2, r3, r4, r5, r6, r7, r8⟩
    obtain k | k | k | k | k | k : m.kind = 1 ∨ m.kind = 2 ∨ m.kind = 3 ∨ m.kind = 4 ∨ m.kind = 5 ∨ m.kind = 6 := by omega
    · have k' := hk.symm.trans k
      rw [us_1 k, us_1 k', show uK m N = 0 from if_neg (by omega), show uK m M = 0 from if_neg (by omega), show uK m' N' = 0 from if_neg (by omega), show uK m' M' = 0 from if_neg (by omega)]
      exact (eqM_iff _ _ _ _ _ _ _ _ _ _ _ _ _ _).2 ⟨beq_iff_eq.2 hk, (eqnW_iff 32 _ _).2 r1, beq_iff_eq.2 r2, beq_iff_eq.2 r3, (eqCm_iff _ _ _ _ _ _).2 ⟨rfl, fun _ _ => rfl, fun _ _ => rfl⟩, (eqCl_iff _ _ _ _ _ _ _ _).2 ⟨rfl, fun i hi => by omega⟩, (eqB_iff _ _ _ _).2 ⟨rfl, fun i hi => by omega⟩, (eqnW_iff 32 _ _).2 (fun _ _ => rfl), (eqnW_iff 32 _ _).2 (fun _ _ => rfl), (eqnW_iff 64 _ _).2 (fun _ _ => rfl), beq_iff_eq.2 rfl⟩
    · have k' := hk.symm.trans k
      rw [us_2 k, us_2 k', show uK m N = 0 from if_neg (by omega), show uK m M = 0 from if_neg (by omega), show uK m' N' = 0 from if_neg (by omega), show uK m' M' = 0 from if_neg (by omega)]
      obtain ⟨s1, s2, s3⟩ := r4 (Or.inl k)
      exact (eqM_iff _ _ _ _ _ _ _ _ _ _ _ _ _ _).2 ⟨beq_iff_eq.2 hk, (eqnW_iff 32 _ _).2 r1, beq_iff_eq.2 r2, beq_iff_eq.2 r3, (eqCm_iff _ _ _ _ _ _).2 ⟨s1, s2, s3⟩, (eqCl_iff _ _ _ _ _ _ _ _).2 ⟨rfl, fun i hi => by omega⟩, (eqB_iff _ _ _ _).2 ⟨rfl, fun i hi => by omega⟩, (eqnW_iff 32 _ _).2 (fun _ _ => rfl), (eqnW_iff 32 _ _).2 (fun _ _ => rfl), (eqnW_iff 64 _ _).2 (fun _ _ => rfl), beq_iff_eq.2 rfl⟩
    · have k' := hk.symm.trans k
      rw [us_3 k, us_3 k', show uK m N = N from if_pos k, show uK m M = M from if_pos k, show uK m' N' = N' from if_pos k', show uK m' M' = M' from if_pos k']
      obtain ⟨rfl, s2, rfl, s4⟩ := r8 k
      exact (eqM_iff _ _ _ _ _ _ _ _ _ _ _ _ _ _).2 ⟨beq_iff_eq.2 hk, (eqnW_iff 32 _ _).2 r1, beq_iff_eq.2 r2, beq_iff_eq.2 r3, (eqCm_iff _ _ _ _ _ _).2 ⟨rfl, fun _ _ => rfl, fun _ _ => rfl⟩, (eqCl_iff _ _ _ _ _ _ _ _).2 ⟨rfl, fun i hi => (eqCm_iff _ _ _ _ _ _).2 (s2 i hi)⟩, (eqB_iff _ _ _ _).2 ⟨rfl, s4⟩, (eqnW_iff 32 _ _).2 (fun _ _ => rfl), (eqnW_iff 32 _ _).2 (fun _ _ => rfl), (eqnW_iff 64 _ _).2 (fun _ _ => rfl), beq_iff_eq.2 rfl⟩
    · have k' := hk.symm.trans k
      rw [us_4 k, us_4 k', show uK m N = 0 from if_neg (by omega), show uK m M = 0 from if_neg (by omega), show uK m' N' = 0 from if_neg (by omega), show uK m' M' = 0 from if_neg (by omega)]
      obtain ⟨s1, s2, s3⟩ := r4 (Or.inr k)
      obtain ⟨t1, t2⟩ := r5 k
      exact (eqM_iff _ _ _ _ _ _ _ _ _ _ _ _ _ _).2 ⟨beq_iff_eq.2 hk, (eqnW_iff 32 _ _).2 r1, beq_iff_eq.2 r2, beq_iff_eq.2 r3, (eqCm_iff _ _ _ _ _ _).2 ⟨s1, s2, s3⟩, (eqCl_iff _ _ _ _ _ _ _ _).2 ⟨rfl, fun i hi => by omega⟩, (eqB_iff _ _ _ _).2 ⟨rfl, fun i hi => by omega⟩, (eqnW_iff 32 _ _).2 t1, (eqnW_iff 32 _ _).2 t2, (eqnW_iff 64 _ _).2 (fun _ _ => rfl), beq_iff_eq.2 rfl⟩
    · have k' := hk.symm.trans k
      rw [us_5 k, us_5 k', show uK m N = 0 from if_neg (by omega), show uK m M = 0 from if_neg (by omega), show uK m' N' = 0 from if_neg (by omega), show uK m' M' = 0 from if_neg (by omega)]
      exact (eqM_iff _ _ _ _ _ _ _ _ _ _ _ _ _ _).2 ⟨beq_iff_eq.2 hk, (eqnW_iff 32 _ _).2 r1, beq_iff_eq.2 r2, beq_iff_eq.2 r3, (eqCm_iff _ _ _ _ _ _).2 ⟨rfl, fun _ _ => rfl, fun _ _ => rfl⟩, (eqCl_iff _ _ _ _ _ _ _ _).2 ⟨rfl, fun i hi => by omega⟩, (eqB_iff _ _ _ _).2 ⟨rfl, fun i hi => by omega⟩, (eqnW_iff 32 _ _).2 (fun _ _ => rfl), (eqnW_iff 32 _ _).2 (fun _ _ => rfl), (eqnW_iff 64 _ _).2 (fun _ _ => rfl), beq_iff_eq.2 (r6 k)⟩
    · have k' := hk.symm.trans k
      rw [us_6 k, us_6 k', show uK m N = 0 from if_neg (by omega), show uK m M = 0 from if_neg (by omega), show uK m' N' = 0 from if_neg (by omega), show uK m' M' = 0 from if_neg (by omega)]
      exact (eqM_iff _ _ _ _ _ _ _ _ _ _ _ _ _ _).2 ⟨beq_iff_eq.2 hk, (eqnW_iff 32 _ _).2 r1, beq_iff_eq.2 r2, beq_iff_eq.2 r3, (eqCm_iff _ _ _ _ _ _).2 ⟨rfl, fun _ _ => rfl, fun _ _ => rfl⟩, (eqCl_iff _ _ _ _ _ _ _ _).2 ⟨rfl, fun i hi => by omega⟩, (eqB_iff _ _ _ _).2 ⟨rfl, fun i hi => by omega⟩, (eqnW_iff 32 _ _).2 (fun _ _ => rfl), (eqnW_iff 32 _ _).2 (fun _ _ => rfl), (eqnW_iff 64 _ _).2 (r7 k), beq_iff_eq.2 rfl⟩
theorem en_smU (m : Ms) (N : Nat) (d : Nat → Int) (h b : Nat → Nat → Nat) (M : Nat) (ft : Nat → Nat) (m' : Ms) (N' : Nat) (d' : Nat → Int) (h' b' : Nat → Nat → Nat) (M' : Nat) (ft' : Nat → Nat) (hk6 : 1 ≤ m.kind ∧ m.kind ≤ 6) (q : SmU m N d h b M ft m' N' d' h' b' M' ft') : enN m N M = enN m' N' M' ∧ ∀ j, j < enN m N M → enF m N d h b M ft j = enF m' N' d' h' b' M' ft' j := by
  obtain ⟨hk, r1, r2, r3, r4, r5, r6, r7, r8⟩ := q
  have hd : ∀ i, i < 34 → hdB m i = hdB m' i := catCg (n := 32) (k := 2) r1 (fun i _ => by rw [r2, r3])
  obtain k | k | k | k | k | k : m.kind = 1 ∨ m.kind = 2 ∨ m.kind = 3 ∨ m.kind = 4 ∨ m.kind = 5 ∨ m.kind = 6 := by omega
  · have k' := hk.symm.trans k
    rw [show enN m N M = 34 from by unfold enN; rw [if_pos k], show enN m' N' M' = 34 from by unfold enN; rw [if_pos k'], show enF m N d h b M ft = hdB m from by unfold enF; rw [if_pos k], show enF m' N' d' h' b' M' ft' = hdB m' from by unfold enF; rw [if_pos k']]
    refine ⟨rfl, ?_⟩
    exact hd
  · have k' := hk.symm.trans k
    rw [show enN m N M = 34 + 65 from by unfold enN; rw [if_neg (by omega), if_pos k], show enN m' N' M' = 34 + 65 from by unfold enN; rw [if_neg (by omega), if_pos k'], show enF m N d h b M ft = cat (hdB m) 34 (cmB m.id.toNat m.hid m.bnd) from by unfold enF; rw [if_neg (by omega), if_pos k], show enF m' N' d' h' b' M' ft' = cat (hdB m') 34 (cmB m'.id.toNat m'.hid m'.bnd) from by unfold enF; rw [if_neg (by omega), if_pos k']]
    refine ⟨rfl, ?_⟩
    obtain ⟨s1, s2, s3⟩ := r4 (Or.inl k)
    exact catCg hd (cmCg (by rw [s1]) s2 s3)
  · have k' := hk.symm.trans k
    obtain ⟨rfl, s2, rfl, s4⟩ := r8 k
    rw [show enN m N M = 34 + (1 + 65 * N) + (4 + M) from by unfold enN; rw [if_neg (by omega), if_neg (by omega), if_pos k], show enN m' N M = 34 + (1 + 65 * N) + (4 + M) from by unfold enN; rw [if_neg (by omega), if_neg (by omega), if_pos k'], show enF m N d h b M ft = cat (hdB m) 34 (pkB N d h b M ft) from by unfold enF; rw [if_neg (by omega), if_neg (by omega), if_pos k], show enF m' N d' h' b' M ft' = cat (hdB m') 34 (pkB N d' h' b' M ft') from by unfold enF; rw [if_neg (by omega), if_neg (by omega), if_pos k']]
    refine ⟨rfl, ?_⟩
    intro j hj
    refine catCg (n := 34) (k := 1 + 65 * N + (4 + M)) hd ?_ j (by omega)
    refine catCg (n := 1 + 65 * N) (k := 4 + M) (catCg (n := 1) (k := 65 * N) (fun _ _ => rfl) ?_) (catCg (n := 4) (fun _ _ => rfl) s4)
    intro i hi
    obtain ⟨u1, u2, u3⟩ := s2 (i / 65) (by omega)
    exact cmCg (by rw [u1]) u2 u3 (i % 65) (by omega)
  · have k' := hk.symm.trans k
    rw [show enN m N M = 34 + 65 + 32 + 32 from by unfold enN; rw [if_neg (by omega), if_neg (by omega), if_neg (by omega), if_pos k], show enN m' N' M' = 34 + 65 + 32 + 32 from by unfold enN; rw [if_neg (by omega), if_neg (by omega), if_neg (by omega), if_pos k'], show enF m N d h b M ft = cat (cat (cat (hdB m) 34 (cmB m.id.toNat m.hid m.bnd)) (34 + 65) m.bind) (34 + 65 + 32) m.share from by unfold enF; rw [if_neg (by omega), if_neg (by omega), if_neg (by omega), if_pos k], show enF m' N' d' h' b' M' ft' = cat (cat (cat (hdB m') 34 (cmB m'.id.toNat m'.hid m'.bnd)) (34 + 65) m'.bind) (34 + 65 + 32) m'.share from by unfold enF; rw [if_neg (by omega), if_neg (by omega), if_neg (by omega), if_pos k']]
    refine ⟨rfl, ?_⟩
    obtain ⟨s1, s2, s3⟩ := r4 (Or.inr k)
    obtain ⟨t1, t2⟩ := r5 k
    exact catCg (n := 34 + 65 + 32) (catCg (n := 34 + 65) (catCg hd (cmCg (by rw [s1]) s2 s3)) t1) t2
  · have k' := hk.symm.trans k
    rw [show enN m N M = 34 + 2 from by unfold enN; rw [if_neg (by omega), if_neg (by omega), if_neg (by omega), if_neg (by omega), if_pos k], show enN m' N' M' = 34 + 2 from by unfold enN; rw [if_neg (by omega), if_neg (by omega), if_neg (by omega), if_neg (by omega), if_pos k'], show enF m N d h b M ft = cat (hdB m) 34 (b2 m.code.toNat) from by unfold enF; rw [if_neg (by omega), if_neg (by omega), if_neg (by omega), if_neg (by omega), if_pos k], show enF m' N' d' h' b' M' ft' = cat (hdB m') 34 (b2 m'.code.toNat) from by unfold enF; rw [if_neg (by omega), if_neg (by omega), if_neg (by omega), if_neg (by omega), if_pos k']]
    refine ⟨rfl, ?_⟩
    exact catCg hd (fun i _ => by rw [r6 k])
  · have k' := hk.symm.trans k
    rw [show enN m N M = 34 + 64 from by unfold enN; rw [if_neg (by omega), if_neg (by omega), if_neg (by omega), if_neg (by omega), if_neg (by omega)], show enN m' N' M' = 34 + 64 from by unfold enN; rw [if_neg (by omega), if_neg (by omega), if_neg (by omega), if_neg (by omega), if_neg (by omega)], show enF m N d h b M ft = cat (hdB m) 34 m.sig from by unfold enF; rw [if_neg (by omega), if_neg (by omega), if_neg (by omega), if_neg (by omega), if_neg (by omega)], show enF m' N' d' h' b' M' ft' = cat (hdB m') 34 m'.sig from by unfold enF; rw [if_neg (by omega), if_neg (by omega), if_neg (by omega), if_neg (by omega), if_neg (by omega)]]
    refine ⟨rfl, ?_⟩
    exact catCg hd (r7 k)
theorem fr_smU (m : Ms) (N : Nat) (d : Nat → Int) (h b : Nat → Nat → Nat) (M : Nat) (ft : Nat → Nat) (m' : Ms) (N' : Nat) (d' : Nat → Int) (h' b' : Nat → Nat → Nat) (M' : Nat) (ft' : Nat → Nat) (hk6 : 1 ≤ m.kind ∧ m.kind ≤ 6) (q : SmU m N d h b M ft m' N' d' h' b' M' ft') :
    enN m N M = enN m' N' M' ∧ ∀ i, i < 14 + enN m N M → frB m.kind.toNat (enN m N M) (enF m N d h b M ft) i = frB m'.kind.toNat (enN m' N' M') (enF m' N' d' h' b' M' ft') i := by
  obtain ⟨hn, hf⟩ := en_smU m N d h b M ft m' N' d' h' b' M' ft' hk6 q
  refine ⟨hn, ?_⟩
  rw [← q.1, ← hn]
  have hw : ∀ i, i < 10 + enN m N M → fwB m.kind.toNat (enN m N M) (enF m N d h b M ft) i = fwB m.kind.toNat (enN m N M) (enF m' N' d' h' b' M' ft') i := catCg (n := 10) (fun _ _ => rfl) hf
  intro i hi
  by_cases h1 : i < 10 + enN m N M
  · rw [frB_lo _ _ _ _ h1, frB_lo _ _ _ _ h1]; exact hw i h1
  · obtain ⟨j, rfl⟩ : ∃ j, i = 10 + enN m N M + j := ⟨i - (10 + enN m N M), by omega⟩
    rw [frB_hi, frB_hi, sha_congr hw]
theorem rdM_cg (G G' : Nat → Nat) (n K : Nat) (hn : (K = 1 → 34 ≤ n) ∧ (K = 2 → 99 ≤ n) ∧ (K = 4 → 163 ≤ n) ∧ (K = 5 → 36 ≤ n) ∧ (K = 6 → 98 ≤ n)) (hK : K = 1 ∨ K = 2 ∨ K = 4 ∨ K = 5 ∨ K = 6) (h : ∀ i, i < 10 + n → G i = G' i) : SmM (rdM G K) (rdM G' K) := by
  have z : ∀ (x y : Nat), x = y → ((x : Nat) : Int) = ((y : Nat) : Int) := fun x y e => by rw [e]
  have r0 : 34 ≤ n → ∀ Kk : Int, SmM (rd0 G Kk) (rd0 G' Kk) := fun hn Kk => ⟨rfl, fun i hi => h _ (by omega), z _ _ (h 42 (by omega)), z _ _ (h 43 (by omega)), rfl, fun _ _ => rfl, fun _ _ => rfl, rfl, rfl, fun _ _ => rfl, fun _ _ => rfl, fun _ _ => rfl, rfl⟩
  rcases hK with rfl | rfl | rfl | rfl | rfl
  · exact r0 (hn.1 rfl) 1
  · have hn := hn.2.1 rfl
    obtain ⟨a1, a2, a3, a4, a5, a6, a7, a8, a9, a10, a11, a12, a13⟩ := r0 (by omega) 2
    exact ⟨a1, a2, a3, a4, z _ _ (h 44 (by omega)), fun i hi => h _ (by omega), fun i hi => h _ (by omega), a8, a9, a10, a11, a12, a13⟩
  · have hn := hn.2.2.1 rfl
    obtain ⟨a1, a2, a3, a4, a5, a6, a7, a8, a9, a10, a11, a12, a13⟩ := r0 (by omega) 4
    exact ⟨a1, a2, a3, a4, z _ _ (h 44 (by omega)), fun i hi => h _ (by omega), fun i hi => h _ (by omega), a8, a9, fun i hi => h _ (by omega), fun i hi => h _ (by omega), a12, a13⟩
  · have hn := hn.2.2.2.1 rfl
    obtain ⟨a1, a2, a3, a4, a5, a6, a7, a8, a9, a10, a11, a12, a13⟩ := r0 (by omega) 5
    exact ⟨a1, a2, a3, a4, a5, a6, a7, a8, a9, a10, a11, a12, z ((0 * 256 + G 44) * 256 + G 45) ((0 * 256 + G' 44) * 256 + G' 45) (by rw [h 44 (by omega), h 45 (by omega)])⟩
  · have hn := hn.2.2.2.2 rfl
    obtain ⟨a1, a2, a3, a4, a5, a6, a7, a8, a9, a10, a11, a12, a13⟩ := r0 (by omega) 6
    exact ⟨a1, a2, a3, a4, a5, a6, a7, a8, a9, a10, a11, fun i hi => h _ (by omega), a13⟩
theorem SmM.tr {a b c d : Ms} (h1 : SmM a b) (h2 : SmM a c) (h3 : SmM c d) : SmM b d := by
  obtain ⟨a1, a2, a3, a4, a5, a6, a7, a8, a9, a10, a11, a12, a13⟩ := h1
  obtain ⟨b1, b2, b3, b4, b5, b6, b7, b8, b9, b10, b11, b12, b13⟩ := h2
  obtain ⟨c1, c2, c3, c4, c5, c6, c7, c8, c9, c10, c11, c12, c13⟩ := h3
  exact ⟨a1.symm.trans (b1.trans c1), fun i hi => (a2 i hi).symm.trans ((b2 i hi).trans (c2 i hi)), a3.symm.trans (b3.trans c3), a4.symm.trans (b4.trans c4), a5.symm.trans (b5.trans c5), fun i hi => (a6 i hi).symm.trans ((b6 i hi).trans (c6 i hi)), fun i hi => (a7 i hi).symm.trans ((b7 i hi).trans (c7 i hi)), a8.symm.trans (b8.trans c8), a9.symm.trans (b9.trans c9), fun i hi => (a10 i hi).symm.trans ((b10 i hi).trans (c10 i hi)), fun i hi => (a11 i hi).symm.trans ((b11 i hi).trans (c11 i hi)), fun i hi => (a12 i hi).symm.trans ((b12 i hi).trans (c12 i hi)), a13.symm.trans (b13.trans c13)⟩
theorem smU_fr (m : Ms) (N : Nat) (d : Nat → Int) (h b : Nat → Nat → Nat) (M : Nat) (ft : Nat → Nat) (m' : Ms) (N' : Nat) (d' : Nat → Int) (h' b' : Nat → Nat → Nat) (M' : Nat) (ft' : Nat → Nat) (hg : EnG m N d M) (hg' : EnG m' N' d' M') (hn : enN m N M = enN m' N' M')
    (hf : ∀ i, i < 14 + enN m N M → frB m.kind.toNat (enN m N M) (enF m N d h b M ft) i = frB m'.kind.toNat (enN m' N' M') (enF m' N' d' h' b' M' ft') i) : SmU m N d h b M ft m' N' d' h' b' M' ft' := by
  have hk6 := hg.1
  have hk6' := hg'.1
  unfold okKind at hk6 hk6'
  have hk : m.kind = m'.kind := by
    have h5 := hf 5 (by omega)
    rw [frB_he _ _ _ _ (by omega), frB_he _ _ _ _ (by omega)] at h5
    have h5 : m.kind.toNat = m'.kind.toNat := h5
    omega
  by_cases k3 : m.kind = 3
  · have k3' := hk.symm.trans k3
    have R := rd0_us m N d h b M ft hg 3 k3
    have R' := rd0_us m' N' d' h' b' M' ft' hg' 3 k3'
    have g5 := hg.2.2.2.2.1 k3
    have g5' := hg'.2.2.2.2.1 k3'
    obtain ⟨p0, p1, p2, p3, p4⟩ := en_pack m N d h b M ft hg k3 _ rfl
    obtain ⟨q0, q1, q2, q3, q4⟩ := en_pack m' N' d' h' b' M' ft' hg' k3' _ rfl
    revert p1 p2 p3 p4 q1 q2 q3 q4 R R' hf
    obtain ⟨G, hG⟩ : ∃ G, frB m.kind.toNat (enN m N M) (enF m N d h b M ft) = G := ⟨_, rfl⟩
    obtain ⟨G', hG'⟩ : ∃ G, frB m'.kind.toNat (enN m' N' M') (enF m' N' d' h' b' M' ft') = G := ⟨_, rfl⟩
    rw [hG, hG']
    intro hf R R' p1 p2 p3 p4 q1 q2 q3 q4
    have r0 : SmM (rd0 G 3) (rd0 G' 3) := ⟨rfl, fun i hi => hf _ (by omega), by show ((G 42 : Nat) : Int) = ((G' 42 : Nat) : Int); rw [hf 42 (by omega)], by show ((G 43 : Nat) : Int) = ((G' 43 : Nat) : Int); rw [hf 43 (by omega)], rfl, fun _ _ => rfl, fun _ _ => rfl, rfl, rfl, fun _ _ => rfl, fun _ _ => rfl, fun _ _ => rfl, rfl⟩
    have S := SmM.tr R r0 R'
    have hN : N = N' := by rw [← p1, ← q1]; exact hf 44 (by omega)
    subst hN
    have hM : M = M' := by omega
    subst hM
    refine ⟨hk, S.2.1, S.2.2.1, S.2.2.2.1, fun q => by omega, fun q => by omega, fun q => by omega, fun q => by omega, fun _ => ⟨rfl, fun i hi => ?_, rfl, fun i hi => ?_⟩⟩
    · have hc : ∀ j, j < 65 → cmB (d i).toNat (h i) (b i) j = cmB (d' i).toNat (h' i) (b' i) j := fun j hj => by
        have e1 := p2 (65 * i + j) (by omega)
        have e2 := q2 (65 * i + j) (by omega)
        unfold csB at e1 e2
        rw [show (65 * i + j) / 65 = i by omega, show (65 * i + j) % 65 = j by omega] at e1 e2
        rw [← e1, ← e2]
        exact hf _ (by omega)
      have o1 := g5.2.1 i hi
      have o2 := g5'.2.1 i hi
      unfold okID at o1 o2
      have c0 : (d i).toNat = (d' i).toNat := hc 0 (by omega)
      refine ⟨by omega, fun j hj => ?_, fun j hj => ?_⟩
      · have := hc (1 + j) (by omega)
        unfold cmB at this
        rwa [if_neg (by omega), if_pos (by omega), if_neg (by omega), if_pos (by omega), Nat.add_sub_cancel_left] at this
      · have := hc (33 + j) (by omega)
        unfold cmB at this
        rwa [if_neg (by omega), if_neg (by omega), if_neg (by omega), if_neg (by omega), Nat.add_sub_cancel_left] at this
    · rw [← p4 i hi, ← q4 i hi]
      exact hf _ (by omega)
  · have k3' : m'.kind ≠ 3 := fun q => k3 (hk.trans q)
    have R := en_rdM m N d h b M ft hg k3
    have R' := en_rdM m' N' d' h' b' M' ft' hg' k3'
    rw [← hk] at R'
    have hl : ∀ K : Nat, m.kind = (K : Int) → (K = 1 → 34 ≤ enN m N M) ∧ (K = 2 → 99 ≤ enN m N M) ∧ (K = 4 → 163 ≤ enN m N M) ∧ (K = 5 → 36 ≤ enN m N M) ∧ (K = 6 → 98 ≤ enN m N M) := fun K hK => by
      unfold enN
      refine ⟨fun e => ?_, fun e => ?_, fun e => ?_, fun e => ?_, fun e => ?_⟩ <;> subst e
      · rw [if_pos (by omega)]; omega
      · rw [if_neg (by omega), if_pos (by omega)]; omega
      · rw [if_neg (by omega), if_neg (by omega), if_neg (by omega), if_pos (by omega)]; omega
      · rw [if_neg (by omega), if_neg (by omega), if_neg (by omega), if_neg (by omega), if_pos (by omega)]; omega
      · rw [if_neg (by omega), if_neg (by omega), if_neg (by omega), if_neg (by omega), if_neg (by omega)]; omega
    have S := SmM.tr R (rdM_cg _ _ (enN m N M) m.kind.toNat (hl _ (by omega)) (by omega) (fun i hi => by rw [hf i (by omega), ← hk])) R'
    obtain ⟨a1, a2, a3, a4, a5, a6, a7, a8, a9, a10, a11, a12, a13⟩ := S
    obtain k | k | k | k | k : m.kind = 1 ∨ m.kind = 2 ∨ m.kind = 4 ∨ m.kind = 5 ∨ m.kind = 6 := by omega
    · have k' := hk.symm.trans k
      rw [us_1 k, us_1 k'] at a2 a3 a4 a5 a6 a7 a10 a11 a12 a13
      exact ⟨hk, a2, a3, a4, fun q => by omega, fun q => by omega, fun q => by omega, fun q => by omega, fun q => by omega⟩
    · have k' := hk.symm.trans k
      rw [us_2 k, us_2 k'] at a2 a3 a4 a5 a6 a7 a10 a11 a12 a13
      exact ⟨hk, a2, a3, a4, fun _ => ⟨a5, a6, a7⟩, fun q => by omega, fun q => by omega, fun q => by omega, fun q => by omega⟩
    · have k' := hk.symm.trans k
      rw [us_4 k, us_4 k'] at a2 a3 a4 a5 a6 a7 a10 a11 a12 a13
      exact ⟨hk, a2, a3, a4, fun _ => ⟨a5, a6, a7⟩, fun _ => ⟨a10, a11⟩, fun q => by omega, fun q => by omega, fun q => by omega⟩
    · have k' := hk.symm.trans k
      rw [us_5 k, us_5 k'] at a2 a3 a4 a5 a6 a7 a10 a11 a12 a13
      exact ⟨hk, a2, a3, a4, fun q => by omega, fun q => by omega, fun _ => a13, fun q => by omega, fun q => by omega⟩
    · have k' := hk.symm.trans k
      rw [us_6 k, us_6 k'] at a2 a3 a4 a5 a6 a7 a10 a11 a12 a13
      exact ⟨hk, a2, a3, a4, fun q => by omega, fun q => by omega, fun q => by omega, fun _ => a12, fun q => by omega⟩
/-- One frame just where the messages are one. -/
theorem fr_eqM (m : Ms) (N : Nat) (d : Nat → Int) (h b : Nat → Nat → Nat) (M : Nat) (ft : Nat → Nat) (m' : Ms) (N' : Nat) (d' : Nat → Int) (h' b' : Nat → Nat → Nat) (M' : Nat) (ft' : Nat → Nat) (hg : EnG m N d M) (hg' : EnG m' N' d' M') :
    eqB (14 + enN m N M) (frB m.kind.toNat (enN m N M) (enF m N d h b M ft)) (14 + enN m' N' M') (frB m'.kind.toNat (enN m' N' M') (enF m' N' d' h' b' M' ft')) = eqM (usM m) (uK m N) d h b (uK m M) ft (usM m') (uK m' N') d' h' b' (uK m' M') ft' := by
  have hk := hg.1
  unfold okKind at hk
  refine Bool.eq_iff_iff.2 ?_
  rw [eqB_iff, eqM_smU m N d h b M ft m' N' d' h' b' M' ft' hk]
  constructor
  · rintro ⟨h1, h2⟩
    exact smU_fr m N d h b M ft m' N' d' h' b' M' ft' hg hg' (by omega) h2
  · intro q
    obtain ⟨h1, h2⟩ := fr_smU m N d h b M ft m' N' d' h' b' M' ft' hk q
    exact ⟨by omega, h2⟩
end Go.Proofs.YtgfeopingompdaaGreatDoor
