/- Inverses modulo the order, running products. -/
import Derived.Test.YtledggdoehnlcaaGreatMgA
import Derived.Test.YtledggdoehnlcaaGreatMgC
import Derived.Test.YtledggdoehnlcaaGreatNmO1
set_option linter.unusedVariables false
set_option linter.unusedSimpArgs false
set_option linter.unnecessarySimpa false
namespace Go.Proofs.YtledggdoehnlcaaGreat
open Go.RowKit N

theorem L_pos : 0 < L := by unfold L; decide
theorem iv_mul (n : Nat) (h : ¬ LN ∣ n) : iv (n : Int) * (n : Int) % L = 1 := by
  have e : pw (n : Int) 7237005577332262213973186563042994240857116359379907606001950938285454250987 * pw (n : Int) 1 % L = pw (n : Int) 7237005577332262213973186563042994240857116359379907606001950938285454250988 := pw_mul (n : Int) _ _ _ (by decide)
  rw [pw_last n h, pw_one, m_mul_r] at e
  exact e
theorem iv_bd (a : Int) : 0 ≤ iv a ∧ iv a < L := ⟨Int.emod_nonneg _ (by unfold L; decide), Int.emod_lt_of_pos _ L_pos⟩
/-- Whatever is 1 with n is its inverse. -/
theorem iv_one {x : Int} {n : Nat} (hx0 : 0 ≤ x) (hx1 : x < L) (h : ¬ LN ∣ n) (e : x * (n : Int) % L = 1) : x = iv (n : Int) := by
  have h1 : x * (iv (n : Int) * (n : Int)) % L = x := by
    rw [← m_mul_r, iv_mul n h, Int.mul_one, Int.emod_eq_of_lt hx0 hx1]
  have h2 : x * (iv (n : Int) * (n : Int)) % L = iv (n : Int) := by
    rw [show x * (iv (n : Int) * (n : Int)) = x * (n : Int) * iv (n : Int) by rw [Int.mul_comm (iv (n : Int)), Int.mul_assoc], ← m_mul_l, e, Int.one_mul, Int.emod_eq_of_lt (iv_bd _).1 (iv_bd _).2]
  rw [← h1, h2]
/-- The running product. -/
def rp (f : Nat → Nat) (i : Nat) : Int := pL f i % L
theorem rp_rl (f : Nat → Nat) (i : Nat) : RL (rp f i) := rl_mod _
theorem rp_s (f : Nat → Nat) (i : Nat) : rp f i * (((f i : Nat) : Int) % L) % L = rp f (i + 1) := pL_s f i
theorem rp_0 (f : Nat → Nat) : rp f 0 = 1 := by unfold rp; rw [pL_0]; unfold L; decide
theorem rp_bd (f : Nat → Nat) (i : Nat) : 0 ≤ rp f i ∧ rp f i < L := ⟨Int.emod_nonneg _ (by unfold L; decide), Int.emod_lt_of_pos _ L_pos⟩
theorem not_dvd_mul {a b : Nat} (ha : ¬ LN ∣ a) (hb : ¬ LN ∣ b) : ¬ LN ∣ a * b := fun h => by
  rcases pr_l.euclid (q := LN) h with h | h
  · exact ha h
  · exact hb h
theorem not_dvd_one : ¬ LN ∣ 1 := fun h => by
  have := Nat.le_of_dvd (by decide) h
  unfold LN at this
  omega
theorem rp_ne (f : Nat → Nat) : ∀ i, (∀ j, j < i → ¬ LN ∣ f j) → ∃ n : Nat, rp f i = (n : Int) ∧ ¬ LN ∣ n
  | 0, _ => ⟨1, rp_0 f, not_dvd_one⟩
  | i + 1, h => by
    obtain ⟨n, hn, hd⟩ := rp_ne f i (fun j hj => h j (by omega))
    refine ⟨n * f i % LN, ?_, fun hx => ?_⟩
    · rw [← rp_s, hn, m_mul_r, Int.natCast_emod, LN_eq, Int.natCast_mul]
    · exact not_dvd_mul hd (h i (by omega)) ((Nat.dvd_mod_iff (Nat.dvd_refl LN)).1 hx)
theorem first_R {f : Nat → Nat} {N : Nat} (h : ∀ j, j < N → ¬ LN ∣ f j) : iv (rp f N) * rp f N % L = 1 := by
  obtain ⟨n, hn, hd⟩ := rp_ne f N h
  rw [hn]
  exact iv_mul n hd
/-- One step back: what is answered at place i, and what goes on. -/
theorem back_out {f : Nat → Nat} {i : Nat} {R : Int} (h : ¬ LN ∣ f i) (hR : R * rp f (i + 1) % L = 1) : rp f i * R % L = iv ((f i : Nat) : Int) := by
  refine iv_one (Int.emod_nonneg _ (by unfold L; decide)) (Int.emod_lt_of_pos _ L_pos) h ?_
  have e1 : rp f i * R % L * ((f i : Nat) : Int) % L = R * (rp f i * ((f i : Nat) : Int)) % L := by
    rw [m_mul_l, Int.mul_assoc, Int.mul_left_comm]
  rw [e1, ← m_mul_r, ← m_mul_r (rp f i), rp_s, hR]
theorem back_rest {f : Nat → Nat} {i : Nat} {R : Int} (hR : R * rp f (i + 1) % L = 1) : R * (((f i : Nat) : Int) % L) % L * rp f i % L = 1 := by
  rw [m_mul_l, Int.mul_assoc, Int.mul_comm (((f i : Nat) : Int) % L), ← m_mul_r, rp_s, hR]
theorem zero_dec (n : Nat) : eqn ((n : Int) % L) 0 = decide (LN ∣ n) := by
  rw [eqn_eq (rl_mod _) ⟨by decide, by decide⟩]
  congr 1
  rw [eq_iff_iff]
  exact mod_zero_iff n
/-- Rows: zero ahead of i, inverses from i on. -/
def ivR (f : Nat → Nat) (i : Nat) : Nat → List Value := fun j => if j < i then feL 0 else feL (iv ((f j : Nat) : Int))
theorem ivR_step (f : Nat → Nat) (i : Nat) : upR (ivR f (i + 1)) i (feL (iv ((f i : Nat) : Int))) = ivR f i := by
  funext j; unfold upR ivR
  by_cases h : j = i
  · subst h; rw [if_pos rfl, if_neg (by omega)]
  · rw [if_neg h]
    by_cases h2 : j < i
    · rw [if_pos h2, if_pos (by omega)]
    · rw [if_neg h2, if_neg (by omega)]
theorem feL_ok4 (n : Int) : (feL n).length = 32 ∧ ∀ v ∈ feL n, v.oneCell' = true := ⟨rfl, by simp [feL, Value.oneCell']⟩
theorem ivR_ok (f : Nat → Nat) (i m : Nat) : Rok 32 m (ivR f i) := fun j _ => by
  unfold ivR
  split <;> exact feL_ok4 _
theorem z32_ok4 : (z32.toList).length = 32 ∧ ∀ v ∈ z32.toList, v.oneCell' = true := ⟨rfl, by simp [z32, Value.oneCell']⟩
theorem scRow4 : ∃ i, Tryz.prog.info? 24 = some i ∧ i.zero = some (.agg z32) ∧ i.size = 32 ∧ i.bytes = 32 := by
  have h : (Tryz.prog.info? 24).map (fun i => (i.zero, i.size, i.bytes)) = some (some (.agg z32), 32, 32) := by kernel_rfl
  cases hi : Tryz.prog.info? 24 with
  | none => rw [hi] at h; simp at h
  | some i => rw [hi] at h; simp at h; exact ⟨i, rfl, h.1, h.2.1, h.2.2⟩
theorem make_sc4 (r : Nat) (hr : r ≤ 4398046511104) (W : World) : (Instr.makeSlice 29 (.int .i64 (r : Int)) (.int .i64 (r : Int))).run Tryz.prog W = .ok (.slice (some ⟨W.heap.size, 0, none⟩) r r) (W.alloc (.cells (rL 32 r fun _ => z32.toList).toArray 24)) := by
  obtain ⟨i, hi, hz, h1, h2⟩ := scRow4
  have h := run_make (P := Tryz.prog) W 29 24 i (.agg z32) Tryz.underlying29 hi hz .i64 .i64 (r : Int) (r : Int) (by omega) (by omega) (by rw [h2]; omega) (by omega)
  rw [h, h1, Int.toNat_natCast]
  show Result.ok _ (W.alloc (.cells (madeCells z32 (r * 32)) 24)) = _
  rw [made_r z32 32 r rfl]
theorem wdL_zero : wdL 0 = [.int .u64 0, .int .u64 0, .int .u64 0, .int .u64 0] := by simp [wdL, wrd]
theorem nuRow4 : ∃ i, Tryz.prog.info? 112 = some i ∧ i.zero = some (.agg #[.int .u64 0, .int .u64 0, .int .u64 0, .int .u64 0]) ∧ i.size = 4 ∧ i.bytes = 32 := by
  have h : (Tryz.prog.info? 112).map (fun i => (i.zero, i.size, i.bytes)) = some (some (.agg #[.int .u64 0, .int .u64 0, .int .u64 0, .int .u64 0]), 4, 32) := by kernel_rfl
  cases hi : Tryz.prog.info? 112 with
  | none => rw [hi] at h; simp at h
  | some i => rw [hi] at h; simp at h; exact ⟨i, rfl, h.1, h.2.1, h.2.2⟩
theorem make_nu4 (r : Nat) (hr : r ≤ 4398046511104) (W : World) : (Instr.makeSlice 234 (.int .i64 (r : Int)) (.int .i64 (r : Int))).run Tryz.prog W = .ok (.slice (some ⟨W.heap.size, 0, none⟩) r r) (W.alloc (.cells (rL 4 r fun _ => wdL 0).toArray 112)) := by
  obtain ⟨i, hi, hz, h1, h2⟩ := nuRow4
  have h := run_make (P := Tryz.prog) W 234 112 i _ Tryz.underlying234 hi hz .i64 .i64 (r : Int) (r : Int) (by omega) (by omega) (by rw [h2]; omega) (by omega)
  rw [h, h1, Int.toNat_natCast, wdL_zero]
  show Result.ok _ (W.alloc (.cells (madeCells #[.int .u64 0, .int .u64 0, .int .u64 0, .int .u64 0] (r * 4)) 112)) = _
  rw [made_r _ 4 r rfl]
/-- Rows: running products below i, zeros from i on. -/
def rpR (f : Nat → Nat) (i : Nat) : Nat → List Value := fun j => if j < i then wdL (rp f j) else wdL 0
theorem rpR_ok (f : Nat → Nat) (i m : Nat) : Rok 4 m (rpR f i) := fun j _ => by
  unfold rpR
  split <;> exact wdL_ok _
theorem rpR_step (f : Nat → Nat) (i : Nat) : upR (rpR f i) i (wdL (rp f i)) = rpR f (i + 1) := by
  funext j; unfold upR rpR
  by_cases h : j = i
  · subst h; rw [if_pos rfl, if_pos (by omega)]
  · rw [if_neg h]
    by_cases h2 : j < i
    · rw [if_pos h2, if_pos (by omega)]
    · rw [if_neg h2, if_neg (by omega)]
/-- Rows: running products below k (those from k on are whatever). -/
def Rp (f : Nat → Nat) (k : Nat) (F : Nat → List Value) : Prop := ∀ j, j < k → F j = wdL (rp f j)
end Go.Proofs.YtledggdoehnlcaaGreat
