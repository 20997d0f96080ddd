/- scalar.IsZero, Canonical, Neg, FromInt, Invert, Power, Legendre. -/
import Derived.Test.YtoafcaieifjoiaaGreatPow
set_option linter.unusedVariables false
set_option linter.unusedSimpArgs false
set_option linter.unnecessarySimpa false
namespace Go.Proofs.YtoafcaieifjoiaaGreat
open Go.RowKit N

theorem u8Info : ∃ i, Tryz.prog.info? 5 = some i := Option.isSome_iff_exists.1 (by kernel_rfl)
theorem u8Cells : Tryz.prog.cellsOf 5 = 1 := by kernel_rfl
theorem u64Info : ∃ i, Tryz.prog.info? 156 = some i := Option.isSome_iff_exists.1 (by kernel_rfl)
theorem u64Cells : Tryz.prog.cellsOf 156 = 1 := by kernel_rfl
@[go_sem] theorem eq_fe (n m : Int) (w : World) : (Op.equalIn 10000 24 (.agg (feC n)) (.agg (feC m))).run Tryz.prog w = .ok (eqf n m) w := by
  obtain ⟨i, hi⟩ := u8Info
  rw [show (10000 : Nat) = 9998 + 1 + 1 from rfl, run_equalIn_array w 9999 _ _ Tryz.underlying24 hi, u8Cells]
  exact eqItems_ints w 9998 Tryz.underlying5 _ _ (by8 n) (by8 m) (List.range 32) (fun j hj => ⟨feC_get n j (by simpa using hj), feC_get m j (by simpa using hj)⟩)
theorem feGuard : Tryz.prog.eqGuardType Tryz.prog.depth 24 = false := by kernel_rfl
theorem numGuard : Tryz.prog.eqGuardType Tryz.prog.depth 162 = false := by kernel_rfl
theorem wd4_get (n : Int) : ∀ i, i < 4 → (wd4 n)[i]? = some (.int .u64 (wrd n i))
  | 0, _ => rfl
  | 1, _ => rfl
  | 2, _ => rfl
  | 3, _ => rfl
  | i + 4, h => by omega
def eqn (n m : Int) : Bool := (List.range 4).all fun i => wrd n i == wrd m i
theorem eqn_eq {n m : Int} (hn : RL n) (hm : RL m) : eqn n m = decide (n = m) := by
  cases h : eqn n m
  · symm
    rw [decide_eq_false_iff_not]
    intro e
    rw [e] at h
    simp [eqn] at h
  · symm
    rw [decide_eq_true_eq]
    unfold eqn at h
    rw [List.all_eq_true] at h
    have hb : ∀ i, i < 4 → wrd n i = wrd m i := fun i hi => by simpa using h i (by simpa using hi)
    have e1 := wrd_sum n hn.1 (by unfold RL at hn; omega)
    have e2 := wrd_sum m hm.1 (by unfold RL at hm; omega)
    rw [hb 0 (by decide), hb 1 (by decide), hb 2 (by decide), hb 3 (by decide)] at e1
    exact e1.symm.trans e2
theorem eq_num (n m : Int) (w : World) : (Op.equalIn 10000 162 (.agg (wd4 n)) (.agg (wd4 m))).run Tryz.prog w = .ok (eqn n m) w := by
  obtain ⟨i, hi⟩ := u64Info
  rw [show (10000 : Nat) = 9998 + 1 + 1 from rfl, run_equalIn_array w 9999 _ _ Tryz.underlying162 hi, u64Cells]
  exact eqItems_ints w 9998 Tryz.underlying156 _ _ (wrd n) (wrd m) (List.range 4) (fun j hj => ⟨wd4_get n j (by simpa using hj), wd4_get m j (by simpa using hj)⟩)
@[go_sem] theorem eq_num0 (n : Int) (w : World) : (Op.equalIn 10000 162 (.agg (wd4 n)) (.agg #[.int .u64 0, .int .u64 0, .int .u64 0, .int .u64 0])).run Tryz.prog w = .ok (eqn n 0) w := eq_num n 0 w
@[go_sem] theorem eq_num1 (n : Int) (w : World) : (Op.equalIn 10000 162 (.agg (wd4 n)) (.agg #[.int .u64 1, .int .u64 0, .int .u64 0, .int .u64 0])).run Tryz.prog w = .ok (eqn n 1) w := eq_num n 1 w

theorem results_cell_tmp {P : Program} {fn : Func} {p q : Tmp} {ty : TypeId} (h : fn.results = #[.cell p ty, .tmp q]) (tmps : Array Value) (w : World) (g : Nat) (t : TypeId) (cs : Array Value) (d : TypeDesc) (v : Value)
    (hp : tmps.getD p undef = .pointer (some ⟨g, 0, none⟩)) (hq : tmps.getD q undef = v) (hg : w.heap[g]? = some (.cells cs t (0, 0)))
    (hu : P.underlying ty = some d) (hd : (match d with | .struct _ | .array _ _ => true | _ => false) = true) (hi : (P.info? ty).map (·.size) = some cs.size) :
    (results fn tmps).run P w = .ok (.tuple #[.agg cs, v]) w := by
  have hp' : tmps[p]?.getD undef = .pointer (some ⟨g, 0, none⟩) := by simpa using hp
  have hq' : tmps[q]?.getD undef = v := by simpa using hq
  simp [results, h, hp', hq', asAddr, run_loadVar_row w g t ty cs (0, 0) d hg hu hd hi]

set_option maxHeartbeats 4000000 in
set_option maxRecDepth 100000 in
theorem IsZero_s (a : Int) (ra : R256 a) (w : World) :
    Calls Tryz.prog 117 #[fe a] w fun e w' => e = .returned (.bool (eqn (a % L) 0)) ∧ Chg w w' [] := by
  have hge := numGuard
  go_enter Tryz.func117, Tryz.ntmps117
  go_wp2_with fail
  have hc : Chg w ((w.alloc (.cells (feC a) 24)).alloc (.cells #[.int .u64 0, .int .u64 0, .int .u64 0, .int .u64 0] 162)) [] := (((Chg.refl w []).alloc (.cells (feC a) 24)).alloc (.cells #[.int .u64 0, .int .u64 0, .int .u64 0, .int .u64 0] 162))
  have f0 : Blk ((w.alloc (.cells (feC a) 24)).alloc (.cells #[.int .u64 0, .int .u64 0, .int .u64 0, .int .u64 0] 162)) w.heap.size (feC a) 24 := by have h := ((Blk.new w (feC a) 24).alloc (.cells #[.int .u64 0, .int .u64 0, .int .u64 0, .int .u64 0] 162)); simpa using h
  have f1 : NumAt ((w.alloc (.cells (feC a) 24)).alloc (.cells #[.int .u64 0, .int .u64 0, .int .u64 0, .int .u64 0] 162)) (w.heap.size + 1) 0 := by have h := (NumAt.new (w.alloc (.cells (feC a) 24))); simpa using h
  generalize hv0 : ((w.alloc (.cells (feC a) 24)).alloc (.cells #[.int .u64 0, .int .u64 0, .int .u64 0, .int .u64 0] 162)) = v0 at hc f0 f1
  try (change Calls Tryz.prog _ _ ((w.alloc (.cells (feC a) 24)).alloc (.cells #[.int .u64 0, .int .u64 0, .int .u64 0, .int .u64 0] 162)) _; rw [hv0])
  clear hv0
  refine (load_any (w.heap.size + 1) w.heap.size a ra (by omega) v0 f1.an f0).mono ?_
  rintro e v1 ⟨rfl, q, k⟩
  replace f0 := f0.chg k (by simp)
  replace hc := hc.new k (by omega)
  clear f1 k
  have f1 := q
  clear q
  go_wp2_with (refine wpList_load_row rfl 162 _ rfl (w.heap.size + 1) rfl 162 _ (0, 0) _ f1 Tryz.underlying162 rfl numInfo ?_)
  go_ret
  exact ⟨rfl, hc⟩
set_option maxHeartbeats 4000000 in
set_option maxRecDepth 100000 in
theorem Neg_s (a : Int) (ra : R256 a) (w : World) :
    Calls Tryz.prog 109 #[fe a] w fun e w' => e = .returned (fe (-a % L)) ∧ Chg w w' [] := by
  have F0 : Blk ((w.alloc (.cells (feC a) 24)).alloc (.cells z32 24)) w.heap.size (feC a) 24 := (Blk.new w (feC a) 24).alloc _
  have F1 : Blk ((w.alloc (.cells (feC a) 24)).alloc (.cells z32 24)) (w.heap.size + 1) z32 24 := by have h := Blk.new (w.alloc (.cells (feC a) 24)) z32 24; simpa using h
  have hc : Chg w ((w.alloc (.cells (feC a) 24)).alloc (.cells z32 24)) [] := ((Chg.refl w []).alloc _).alloc _
  go_enter Tryz.func109, Tryz.ntmps109
  go_wp2_with (first | (refine wpList_build rfl 24 #[] rfl (feC 0) (by kernel_rfl) ?_) | (refine wpList_load_row rfl 24 _ rfl w.heap.size rfl 24 _ (0, 0) _ F0 Tryz.underlying24 rfl feInfo ?_))
  refine (Sub_s 0 a ⟨by decide, by decide⟩ ra _).mono ?_
  rintro e v1 ⟨rfl, k⟩
  rw [Int.zero_sub]
  replace F1 := F1.chg k (by simp)
  replace hc := hc.trans1 k
  go_wp2_with (refine wpList_store_row rfl 24 _ _ rfl (w.heap.size + 1) _ rfl rfl 24 _ F1 feInfo rfl (feC_one _) ?_)
  exact bodyPost_ret (results_cell_row Tryz.results109 _ _ (w.heap.size + 1) 24 (feC (-a % L)) (0, 0) _ rfl (Blk.setRow F1 _) Tryz.underlying24 rfl feInfo) rfl ⟨rfl, hc.setRowNew (by omega) _⟩
theorem wd4_small (a : Int) (h : Wo a) : wd4 a = #[.int .u64 a, .int .u64 0, .int .u64 0, .int .u64 0] := by
  unfold wd4 Wo at *
  rw [show wrd a 0 = a from by rw [wrd0]; omega, show wrd a 1 = 0 from by rw [wrd1]; omega, show wrd a 2 = 0 from by rw [wrd2]; omega, show wrd a 3 = 0 from by rw [wrd3]; omega]
theorem wo_r256 {a : Int} (h : Wo a) : R256 a := by unfold Wo at h; unfold R256; omega
set_option maxHeartbeats 4000000 in
set_option maxRecDepth 100000 in
theorem FromInt_s (a : Int) (ha : Wo a) (w : World) :
    Calls Tryz.prog 92 #[.int .u64 a] w fun e w' => e = .returned (fe a) ∧ Chg w w' [] := by
  have F0 : Blk ((w.alloc (.cells z32 24)).alloc (.cells #[.int .u64 a, .int .u64 0, .int .u64 0, .int .u64 0] 162)) w.heap.size z32 24 := (Blk.new w z32 24).alloc _
  have F1 : NumAt ((w.alloc (.cells z32 24)).alloc (.cells #[.int .u64 a, .int .u64 0, .int .u64 0, .int .u64 0] 162)) (w.heap.size + 1) a := by
    have h := Blk.new (w.alloc (.cells z32 24)) (wd4 a) 162
    rw [wd4_small a ha] at h
    unfold NumAt
    rw [wd4_small a ha]
    simpa using h
  have hc : Chg w ((w.alloc (.cells z32 24)).alloc (.cells #[.int .u64 a, .int .u64 0, .int .u64 0, .int .u64 0] 162)) [] := ((Chg.refl w []).alloc _).alloc _
  go_enter Tryz.func92, Tryz.ntmps92
  go_wp2_with fail
  refine (bytes_any (w.heap.size + 1) a (wo_r256 ha) _ F1).mono ?_
  rintro e v1 ⟨rfl, k⟩
  replace F0 := F0.chg k (by simp)
  replace hc := hc.trans1 k
  go_wp2_with (refine wpList_store_row rfl 24 _ _ rfl w.heap.size _ rfl rfl 24 _ F0 feInfo rfl (feC_one _) ?_)
  exact bodyPost_ret (results_cell_row Tryz.results92 _ _ w.heap.size 24 (feC a) (0, 0) _ rfl (Blk.setRow F0 _) Tryz.underlying24 rfl feInfo) rfl ⟨rfl, hc.setRowNew (by omega) _⟩
theorem nb_digits (m : Nat) : ∀ (j k : Nat), nb (fun i => m / 256 ^ i % 256) k j = m / 256 ^ k % 256 ^ j
  | 0, k => by simp [nb, Nat.mod_one]
  | j + 1, k => by
    show m / 256 ^ k % 256 + 256 * nb (fun i => m / 256 ^ i % 256) (k + 1) j = _
    rw [nb_digits m j (k + 1), Nat.pow_succ 256 k, ← Nat.div_div_eq_div_mul, Nat.pow_succ 256 j, Nat.mul_comm (256 ^ j) 256]
    generalize m / 256 ^ k = x
    rw [Nat.mod_mul]
theorem nb_congr (f g : Nat → Nat) : ∀ (j k : Nat), (∀ i, k ≤ i → i < k + j → f i = g i) → nb f k j = nb g k j
  | 0, _, _ => rfl
  | j + 1, k, h => by
    show f k + 256 * nb f (k + 1) j = g k + 256 * nb g (k + 1) j
    rw [h k (Nat.le_refl _) (by omega), nb_congr f g j (k + 1) (fun i h1 h2 => h i (by omega) (by omega))]
/-- The bytes of n. -/
def bof (n : Int) (i : Nat) : Nat := (by8 n i).toNat
theorem bof_nat (m i : Nat) : bof (m : Int) i = m / 256 ^ i % 256 := by
  unfold bof by8
  have e : ((m : Int) / 256 ^ i % 256) = ((m / 256 ^ i % 256 : Nat) : Int) := by
    rw [Int.natCast_emod, Int.natCast_ediv, Int.natCast_pow]; rfl
  rw [e, Int.toNat_natCast]
theorem nb_bof (m : Nat) (h : m < 115792089237316195423570985008687907853269984665640564039457584007913129639936) : nb (bof (m : Int)) 0 32 = m := by
  rw [nb_congr _ (fun i => m / 256 ^ i % 256) 32 0 (fun i _ _ => bof_nat m i), nb_digits]
  simp only [Nat.pow_zero, Nat.div_one]
  exact Nat.mod_eq_of_lt h
theorem Bs.ofFe {w : World} {g : Nat} {n : Int} {T : TypeId} (h : Blk w g (feC n) T) : Bs w g 0 32 (bof n) := ⟨h.lt, fun i _ => by have := by8_bd n i; unfold bof; omega, fun i hi => by
  rw [h.cell, Nat.zero_add, feC_get n i hi]
  unfold bof
  rw [Int.toNat_of_nonneg (by8_bd n i).1]⟩

theorem wd4_invert : wd4 7237005577332262213973186563042994240857116359379907606001950938285454250987 = #[.int .u64 6346243789798364139, .int .u64 1503914060200516822, .int .u64 0, .int .u64 1152921504606846976] := by kernel_rfl
set_option maxHeartbeats 4000000 in
set_option maxRecDepth 100000 in
theorem invert_any (z x : Nat) (n : Int) (rn : RL n) (w : World) (hz : An w z) (hx : NumAt w x n) :
    Calls Tryz.prog 101 #[.pointer (some ⟨z, 0, none⟩), .pointer (some ⟨x, 0, none⟩)] w fun e w' => e = .returned (.tuple #[]) ∧ NumAt w' z (pw n 7237005577332262213973186563042994240857116359379907606001950938285454250987) ∧ Chg w w' [z] := by
  have hzl := hz.lt
  have hxl := hx.lt
  have F0 : NumAt (w.alloc (.cells #[.int .u64 6346243789798364139, .int .u64 1503914060200516822, .int .u64 0, .int .u64 1152921504606846976] 162)) w.heap.size 7237005577332262213973186563042994240857116359379907606001950938285454250987 := by unfold NumAt; rw [wd4_invert]; exact Blk.new w _ _
  have hc : Chg w (w.alloc (.cells #[.int .u64 6346243789798364139, .int .u64 1503914060200516822, .int .u64 0, .int .u64 1152921504606846976] 162)) [z] := (Chg.refl w _).alloc _
  replace hz := hz.alloc (.cells #[.int .u64 6346243789798364139, .int .u64 1503914060200516822, .int .u64 0, .int .u64 1152921504606846976] 162)
  replace hx := hx.alloc (.cells #[.int .u64 6346243789798364139, .int .u64 1503914060200516822, .int .u64 0, .int .u64 1152921504606846976] 162)
  go_enter Tryz.func101, Tryz.ntmps101
  go_wp2_with fail
  refine (bytes_any w.heap.size 7237005577332262213973186563042994240857116359379907606001950938285454250987 ⟨by decide, by decide⟩ _ F0).mono ?_
  rintro e v1 ⟨rfl, k⟩
  replace hz := (hz.chg k (by simp)).alloc (.cells z32 24)
  replace hx := (hx.chg k (by simp)).alloc (.cells z32 24)
  have A := Blk.new v1 z32 24
  have sz : w.heap.size < v1.heap.size := (F0.chg k (by simp)).lt
  replace hc := (hc.trans1 k.wide).alloc (.cells z32 24)
  clear k F0
  go_wp2_with (refine wpList_store_row rfl 24 _ _ rfl v1.heap.size _ rfl rfl 24 _ A feInfo rfl (feC_one _) ?_)
  have A' := A.setRow (feC 7237005577332262213973186563042994240857116359379907606001950938285454250987)
  replace hz := hz.chg (Chg.of (gb_setRow (k := v1.heap.size) (gb_refl _ _) (feC 7237005577332262213973186563042994240857116359379907606001950938285454250987))) (by simp; omega)
  replace hx := hx.chg (Chg.of (gb_setRow (k := v1.heap.size) (gb_refl _ _) (feC 7237005577332262213973186563042994240857116359379907606001950938285454250987))) (by simp; omega)
  replace hc := hc.setRowNew (k := v1.heap.size) (by omega) (feC 7237005577332262213973186563042994240857116359379907606001950938285454250987)
  refine (power_any z x v1.heap.size 0 32 32 n (bof 7237005577332262213973186563042994240857116359379907606001950938285454250987) rn (by decide) _ hz hx (Bs.ofFe A') (by omega)).mono ?_
  rintro e v2 ⟨rfl, q, k⟩
  rw [show nb (bof 7237005577332262213973186563042994240857116359379907606001950938285454250987) 0 32 = 7237005577332262213973186563042994240857116359379907606001950938285454250987 from nb_bof 7237005577332262213973186563042994240857116359379907606001950938285454250987 (by decide)] at q
  go_wp2_with fail
  go_end0
  exact ⟨rfl, q, hc.trans1 k⟩
set_option maxHeartbeats 4000000 in
set_option maxRecDepth 100000 in
theorem Invert_zero (a : Int) (ra : R256 a) (h : eqn (a % L) 0 = true) (w : World) :
    Calls Tryz.prog 62 #[fe a] w fun e w' => e = .returned (.tuple #[fe 0, .int .i64 9]) ∧ Chg w w' [] := by
  have hge := numGuard
  go_enter Tryz.func62, Tryz.ntmps62
  go_wp2_with fail
  have hc : Chg w (((w.alloc (.cells (feC a) 24)).alloc (.cells z32 24)).alloc (.cells #[.int .u64 0, .int .u64 0, .int .u64 0, .int .u64 0] 162)) [] := ((((Chg.refl w []).alloc (.cells (feC a) 24)).alloc (.cells z32 24)).alloc (.cells #[.int .u64 0, .int .u64 0, .int .u64 0, .int .u64 0] 162))
  have f0 : Blk (((w.alloc (.cells (feC a) 24)).alloc (.cells z32 24)).alloc (.cells #[.int .u64 0, .int .u64 0, .int .u64 0, .int .u64 0] 162)) w.heap.size (feC a) 24 := by have h := (((Blk.new w (feC a) 24).alloc (.cells z32 24)).alloc (.cells #[.int .u64 0, .int .u64 0, .int .u64 0, .int .u64 0] 162)); simpa using h
  have f1 : Blk (((w.alloc (.cells (feC a) 24)).alloc (.cells z32 24)).alloc (.cells #[.int .u64 0, .int .u64 0, .int .u64 0, .int .u64 0] 162)) (w.heap.size + 1) z32 24 := by have h := ((Blk.new (w.alloc (.cells (feC a) 24)) z32 24).alloc (.cells #[.int .u64 0, .int .u64 0, .int .u64 0, .int .u64 0] 162)); simpa using h
  have f2 : NumAt (((w.alloc (.cells (feC a) 24)).alloc (.cells z32 24)).alloc (.cells #[.int .u64 0, .int .u64 0, .int .u64 0, .int .u64 0] 162)) (w.heap.size + 2) 0 := by have h := (NumAt.new ((w.alloc (.cells (feC a) 24)).alloc (.cells z32 24))); simpa using h
  generalize hv0 : (((w.alloc (.cells (feC a) 24)).alloc (.cells z32 24)).alloc (.cells #[.int .u64 0, .int .u64 0, .int .u64 0, .int .u64 0] 162)) = v0 at hc f0 f1 f2
  try (change Calls Tryz.prog _ _ (((w.alloc (.cells (feC a) 24)).alloc (.cells z32 24)).alloc (.cells #[.int .u64 0, .int .u64 0, .int .u64 0, .int .u64 0] 162)) _; rw [hv0])
  clear hv0
  refine (load_any (w.heap.size + 2) w.heap.size a ra (by omega) v0 f2.an f0).mono ?_
  rintro e v1 ⟨rfl, q, k⟩
  replace f0 := f0.chg k (by simp)
  replace f1 := f1.chg k (by simp)
  replace hc := hc.new k (by omega)
  clear f2 k
  have f2 := q
  clear q
  go_wp2_with (first | (refine wpList_load_row rfl 162 _ rfl (w.heap.size + 2) rfl 162 _ (0, 0) _ f2 Tryz.underlying162 rfl numInfo ?_) | (refine gl_build (by rfl) 24 #[] rfl (feC 0) (by kernel_rfl) ?_) | (refine wpList_store_row rfl 24 _ _ rfl (w.heap.size + 1) _ rfl rfl 24 _ f1 feInfo rfl (feC_one _) ?_))
  exact bodyPost_ret (results_cell_tmp Tryz.results62 _ _ (w.heap.size + 1) 24 (feC 0) _ _ rfl rfl (Blk.setRow f1 _) Tryz.underlying24 rfl feInfo) rfl ⟨rfl, hc.setRowNew (by omega) _⟩
set_option maxHeartbeats 4000000 in
set_option maxRecDepth 100000 in
theorem Invert_not (a : Int) (ra : R256 a) (h : eqn (a % L) 0 = false) (w : World) :
    Calls Tryz.prog 62 #[fe a] w fun e w' => e = .returned (.tuple #[fe (pw a 7237005577332262213973186563042994240857116359379907606001950938285454250987), .int .i64 0]) ∧ Chg w w' [] := by
  have hge := numGuard
  go_enter Tryz.func62, Tryz.ntmps62
  go_wp2_with fail
  have hc : Chg w (((w.alloc (.cells (feC a) 24)).alloc (.cells z32 24)).alloc (.cells #[.int .u64 0, .int .u64 0, .int .u64 0, .int .u64 0] 162)) [] := ((((Chg.refl w []).alloc (.cells (feC a) 24)).alloc (.cells z32 24)).alloc (.cells #[.int .u64 0, .int .u64 0, .int .u64 0, .int .u64 0] 162))
  have f0 : Blk (((w.alloc (.cells (feC a) 24)).alloc (.cells z32 24)).alloc (.cells #[.int .u64 0, .int .u64 0, .int .u64 0, .int .u64 0] 162)) w.heap.size (feC a) 24 := by have h := (((Blk.new w (feC a) 24).alloc (.cells z32 24)).alloc (.cells #[.int .u64 0, .int .u64 0, .int .u64 0, .int .u64 0] 162)); simpa using h
  have f1 : Blk (((w.alloc (.cells (feC a) 24)).alloc (.cells z32 24)).alloc (.cells #[.int .u64 0, .int .u64 0, .int .u64 0, .int .u64 0] 162)) (w.heap.size + 1) z32 24 := by have h := ((Blk.new (w.alloc (.cells (feC a) 24)) z32 24).alloc (.cells #[.int .u64 0, .int .u64 0, .int .u64 0, .int .u64 0] 162)); simpa using h
  have f2 : NumAt (((w.alloc (.cells (feC a) 24)).alloc (.cells z32 24)).alloc (.cells #[.int .u64 0, .int .u64 0, .int .u64 0, .int .u64 0] 162)) (w.heap.size + 2) 0 := by have h := (NumAt.new ((w.alloc (.cells (feC a) 24)).alloc (.cells z32 24))); simpa using h
  generalize hv0 : (((w.alloc (.cells (feC a) 24)).alloc (.cells z32 24)).alloc (.cells #[.int .u64 0, .int .u64 0, .int .u64 0, .int .u64 0] 162)) = v0 at hc f0 f1 f2
  try (change Calls Tryz.prog _ _ (((w.alloc (.cells (feC a) 24)).alloc (.cells z32 24)).alloc (.cells #[.int .u64 0, .int .u64 0, .int .u64 0, .int .u64 0] 162)) _; rw [hv0])
  clear hv0
  refine (load_any (w.heap.size + 2) w.heap.size a ra (by omega) v0 f2.an f0).mono ?_
  rintro e v1 ⟨rfl, q, k⟩
  replace f0 := f0.chg k (by simp)
  replace f1 := f1.chg k (by simp)
  replace hc := hc.new k (by omega)
  clear f2 k
  have f2 := q
  clear q
  go_wp2_with (refine wpList_load_row rfl 162 _ rfl (w.heap.size + 2) rfl 162 _ (0, 0) _ f2 Tryz.underlying162 rfl numInfo ?_)
  refine (invert_any (w.heap.size + 2) (w.heap.size + 2) _ (rl_mod _) v1 f2.an f2).mono ?_
  rintro e v2 ⟨rfl, q, k⟩
  rw [pw_mod] at q
  replace f0 := f0.chg k (by simp)
  replace f1 := f1.chg k (by simp)
  replace hc := hc.new k (by omega)
  clear f2 k
  have f2 := q
  clear q
  go_wp2_with fail
  refine (bytes_any (w.heap.size + 2) _ (r256_rl (pw_rl _ _)) v2 f2).mono ?_
  rintro e v3 ⟨rfl, k⟩
  replace f0 := f0.chg k (by simp)
  replace f1 := f1.chg k (by simp)
  replace f2 := f2.chg k (by simp)
  replace hc := hc.trans1 k
  clear k
  go_wp2_with (refine wpList_store_row rfl 24 _ _ rfl (w.heap.size + 1) _ rfl rfl 24 _ f1 feInfo rfl (feC_one _) ?_)
  exact bodyPost_ret (results_cell_tmp Tryz.results62 _ _ (w.heap.size + 1) 24 (feC (pw a 7237005577332262213973186563042994240857116359379907606001950938285454250987)) _ _ rfl rfl (Blk.setRow f1 _) Tryz.underlying24 rfl feInfo) rfl ⟨rfl, hc.setRowNew (by omega) _⟩
end Go.Proofs.YtoafcaieifjoiaaGreat
