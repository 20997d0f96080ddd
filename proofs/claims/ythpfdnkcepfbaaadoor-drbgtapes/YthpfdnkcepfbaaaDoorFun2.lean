/- scalar.IsZero, Canonical, Neg, FromInt, Invert, Power, Legendre. -/
import Derived.Test.YthpfdnkcepfbaaaDoorPow
set_option linter.unusedVariables false
set_option linter.unusedSimpArgs false
set_option linter.unnecessarySimpa false
namespace Go.Proofs.YthpfdnkcepfbaaaDoor
open Go.RowKit N

theorem u8InfoQ : ∃ i, Tryd.prog.info? 5 = some i := Option.isSome_iff_exists.1 (by kernel_rfl)
theorem u8Cells : Tryd.prog.cellsOf 5 = 1 := by kernel_rfl
theorem u64Info : ∃ i, Tryd.prog.info? 154 = some i := Option.isSome_iff_exists.1 (by kernel_rfl)
theorem u64Cells : Tryd.prog.cellsOf 154 = 1 := by kernel_rfl
@[go_sem] theorem eq_fe (n m : Int) (w : World) : (Op.equalIn 10000 86 (.agg (feC n)) (.agg (feC m))).run Tryd.prog w = .ok (eqf n m) w := by
  obtain ⟨i, hi⟩ := u8InfoQ
  rw [show (10000 : Nat) = 9998 + 1 + 1 from rfl, run_equalIn_array w 9999 _ _ Tryd.underlying86 hi, u8Cells]
  exact eqItems_ints w 9998 Tryd.underlying5 _ _ (by8 n) (by8 m) (List.range 32) (fun j hj => ⟨feC_get n j (by simpa using hj), feC_get m j (by simpa using hj)⟩)
theorem feGuard : Tryd.prog.eqGuardType Tryd.prog.depth 86 = false := by kernel_rfl
theorem numGuard : Tryd.prog.eqGuardType Tryd.prog.depth 248 = false := by kernel_rfl
theorem wd4_get (n : Int) : ∀ i, i < 4 → (wd4 n)[i]? = some (.int .u64 (wrd n i))
  | 0, _ => rfl
  | 1, _ => rfl
  | 2, _ => rfl
  | 3, _ => rfl
  | i + 4, h => by omega
def eqn (n m : Int) : Bool := (List.range 4).all fun i => wrd n i == wrd m i
theorem eqn_eq {n m : Int} (hn : RL n) (hm : RL m) : eqn n m = decide (n = m) := by
  cases h : eqn n m
  · symm
    rw [decide_eq_false_iff_not]
    intro e
    rw [e] at h
    simp [eqn] at h
  · symm
    rw [decide_eq_true_eq]
    unfold eqn at h
    rw [List.all_eq_true] at h
    have hb : ∀ i, i < 4 → wrd n i = wrd m i := fun i hi => by simpa using h i (by simpa using hi)
    have e1 := wrd_sum n hn.1 (by unfold RL at hn; omega)
    have e2 := wrd_sum m hm.1 (by unfold RL at hm; omega)
    rw [hb 0 (by decide), hb 1 (by decide), hb 2 (by decide), hb 3 (by decide)] at e1
    exact e1.symm.trans e2
theorem eq_num (n m : Int) (w : World) : (Op.equalIn 10000 248 (.agg (wd4 n)) (.agg (wd4 m))).run Tryd.prog w = .ok (eqn n m) w := by
  obtain ⟨i, hi⟩ := u64Info
  rw [show (10000 : Nat) = 9998 + 1 + 1 from rfl, run_equalIn_array w 9999 _ _ Tryd.underlying248 hi, u64Cells]
  exact eqItems_ints w 9998 Tryd.underlying154 _ _ (wrd n) (wrd m) (List.range 4) (fun j hj => ⟨wd4_get n j (by simpa using hj), wd4_get m j (by simpa using hj)⟩)
@[go_sem] theorem eq_num0 (n : Int) (w : World) : (Op.equalIn 10000 248 (.agg (wd4 n)) (.agg #[.int .u64 0, .int .u64 0, .int .u64 0, .int .u64 0])).run Tryd.prog w = .ok (eqn n 0) w := eq_num n 0 w
@[go_sem] theorem eq_num1 (n : Int) (w : World) : (Op.equalIn 10000 248 (.agg (wd4 n)) (.agg #[.int .u64 1, .int .u64 0, .int .u64 0, .int .u64 0])).run Tryd.prog w = .ok (eqn n 1) w := eq_num n 1 w

theorem results_cell_tmpQ {P : Program} {fn : Func} {p q : Tmp} {ty : TypeId} (h : fn.results = #[.cell p ty, .tmp q]) (tmps : Array Value) (w : World) (g : Nat) (t : TypeId) (cs : Array Value) (d : TypeDesc) (v : Value)
    (hp : tmps.getD p undef = .pointer (some ⟨g, 0, none⟩)) (hq : tmps.getD q undef = v) (hg : w.heap[g]? = some (.cells cs t (0, 0)))
    (hu : P.underlying ty = some d) (hd : (match d with | .struct _ | .array _ _ => true | _ => false) = true) (hi : (P.info? ty).map (·.size) = some cs.size) :
    (results fn tmps).run P w = .ok (.tuple #[.agg cs, v]) w := by
  have hp' : tmps[p]?.getD undef = .pointer (some ⟨g, 0, none⟩) := by simpa using hp
  have hq' : tmps[q]?.getD undef = v := by simpa using hq
  simp [results, h, hp', hq', asAddr, run_loadVar_row w g t ty cs (0, 0) d hg hu hd hi]

theorem wd4_small (a : Int) (h : Wo a) : wd4 a = #[.int .u64 a, .int .u64 0, .int .u64 0, .int .u64 0] := by
  unfold wd4 Wo at *
  rw [show wrd a 0 = a from by rw [wrd0]; omega, show wrd a 1 = 0 from by rw [wrd1]; omega, show wrd a 2 = 0 from by rw [wrd2]; omega, show wrd a 3 = 0 from by rw [wrd3]; omega]
theorem wo_r256 {a : Int} (h : Wo a) : R256 a := by unfold Wo at h; unfold R256; omega
theorem nb_digits (m : Nat) : ∀ (j k : Nat), nb (fun i => m / 256 ^ i % 256) k j = m / 256 ^ k % 256 ^ j
  | 0, k => by simp [nb, Nat.mod_one]
  | j + 1, k => by
    show m / 256 ^ k % 256 + 256 * nb (fun i => m / 256 ^ i % 256) (k + 1) j = _
    rw [nb_digits m j (k + 1), Nat.pow_succ 256 k, ← Nat.div_div_eq_div_mul, Nat.pow_succ 256 j, Nat.mul_comm (256 ^ j) 256]
    generalize m / 256 ^ k = x
    rw [Nat.mod_mul]
theorem nb_congr (f g : Nat → Nat) : ∀ (j k : Nat), (∀ i, k ≤ i → i < k + j → f i = g i) → nb f k j = nb g k j
  | 0, _, _ => rfl
  | j + 1, k, h => by
    show f k + 256 * nb f (k + 1) j = g k + 256 * nb g (k + 1) j
    rw [h k (Nat.le_refl _) (by omega), nb_congr f g j (k + 1) (fun i h1 h2 => h i (by omega) (by omega))]
/-- The bytes of n. -/
def bof (n : Int) (i : Nat) : Nat := (by8 n i).toNat
theorem bof_nat (m i : Nat) : bof (m : Int) i = m / 256 ^ i % 256 := by
  unfold bof by8
  have e : ((m : Int) / 256 ^ i % 256) = ((m / 256 ^ i % 256 : Nat) : Int) := by
    rw [Int.natCast_emod, Int.natCast_ediv, Int.natCast_pow]; rfl
  rw [e, Int.toNat_natCast]
theorem nb_bof (m : Nat) (h : m < 115792089237316195423570985008687907853269984665640564039457584007913129639936) : nb (bof (m : Int)) 0 32 = m := by
  rw [nb_congr _ (fun i => m / 256 ^ i % 256) 32 0 (fun i _ _ => bof_nat m i), nb_digits]
  simp only [Nat.pow_zero, Nat.div_one]
  exact Nat.mod_eq_of_lt h
theorem Bs.ofFe {w : World} {g : Nat} {n : Int} {T : TypeId} (h : Blk w g (feC n) T) : Bs w g 0 32 (bof n) := ⟨h.lt, fun i _ => by have := by8_bd n i; unfold bof; omega, fun i hi => by
  rw [h.cell, Nat.zero_add, feC_get n i hi]
  unfold bof
  rw [Int.toNat_of_nonneg (by8_bd n i).1]⟩

theorem wd4_invert : wd4 7237005577332262213973186563042994240857116359379907606001950938285454250987 = #[.int .u64 6346243789798364139, .int .u64 1503914060200516822, .int .u64 0, .int .u64 1152921504606846976] := by kernel_rfl
theorem wd4_half : wd4 3618502788666131106986593281521497120428558179689953803000975469142727125494 = #[.int .u64 3173121894899182070, .int .u64 751957030100258411, .int .u64 0, .int .u64 576460752303423488] := by kernel_rfl
def leg (n : Int) : Int := if eqn (pwQ n 3618502788666131106986593281521497120428558179689953803000975469142727125494) 0 then 0 else if eqn (pwQ n 3618502788666131106986593281521497120428558179689953803000975469142727125494) 1 then 1 else -1
end Go.Proofs.YthpfdnkcepfbaaaDoor
