/- Arrays of 32 bytes compared by ==; their first byte. -/
import Derived.Test.YtialljmkkichiabFun
import Derived.ChangeKeysEq
import Derived.Deep.RegionHeld3
set_option linter.unusedVariables false
set_option linter.unusedSimpArgs false
set_option linter.unnecessarySimpa false
namespace Go.Proofs.Ytialljmkkichiab
open Go.RowKit N

theorem eqItems_ints {P : Program} (w : World) (d : Nat) {e : TypeId} {k : IntKind} (hu : P.underlying e = some (.int k)) (xs ys : Array Value) (f g : Nat → Int) :
    ∀ is : List Nat, (∀ i, i ∈ is → xs[i]? = some (.int k (f i)) ∧ ys[i]? = some (.int k (g i))) → (Op.eqItems (d + 1) e 1 xs ys is).run P w = .ok (is.all fun i => f i == g i) w
  | [], _ => by simp [Op.eqItems]
  | i :: is, h => by
    have hp : P.plainKey e = true := by unfold Program.plainKey; rw [hu]
    obtain ⟨h1, h2⟩ := h i (by simp)
    have e1 := run_part_plain (P := P) w hp (xs := xs) (off := i * 1) (by rw [Nat.mul_one]; exact h1)
    have e2 := run_part_plain (P := P) w hp (xs := ys) (off := i * 1) (by rw [Nat.mul_one]; exact h2)
    have e3 := run_equalIn_int (P := P) w d e k k (f i) (g i) hu
    have ih := eqItems_ints w d hu xs ys f g is (fun j hj => h j (by simp [hj]))
    simp only [Op.eqItems, Sem.run_bind, e1, e2, e3, Result.andThen_ok]
    cases hb : (f i == g i)
    · simp [hb]
    · simp [ih, hb]

theorem feC_get (n : Int) : ∀ i, i < 32 → (feC n)[i]? = some (.int .u8 (by8 n i))
  | 0, _ => rfl
  | 1, _ => rfl
  | 2, _ => rfl
  | 3, _ => rfl
  | 4, _ => rfl
  | 5, _ => rfl
  | 6, _ => rfl
  | 7, _ => rfl
  | 8, _ => rfl
  | 9, _ => rfl
  | 10, _ => rfl
  | 11, _ => rfl
  | 12, _ => rfl
  | 13, _ => rfl
  | 14, _ => rfl
  | 15, _ => rfl
  | 16, _ => rfl
  | 17, _ => rfl
  | 18, _ => rfl
  | 19, _ => rfl
  | 20, _ => rfl
  | 21, _ => rfl
  | 22, _ => rfl
  | 23, _ => rfl
  | 24, _ => rfl
  | 25, _ => rfl
  | 26, _ => rfl
  | 27, _ => rfl
  | 28, _ => rfl
  | 29, _ => rfl
  | 30, _ => rfl
  | 31, _ => rfl
  | i + 32, h => by omega

/-- Are all bytes the same? -/
def eqf (n m : Int) : Bool := (List.range 32).all fun i => by8 n i == by8 m i
@[go_sem] theorem eqf_self (n : Int) : eqf n n = true := by simp [eqf]
theorem eqf_eq {n m : Int} (hn : R256 n) (hm : R256 m) : eqf n m = decide (n = m) := by
  cases h : eqf n m
  · symm
    rw [decide_eq_false_iff_not]
    intro e
    rw [e, eqf_self] at h
    cases h
  · symm
    rw [decide_eq_true_eq]
    unfold eqf at h
    rw [List.all_eq_true] at h
    have hb : ∀ i, i < 32 → by8 n i = by8 m i := fun i hi => by simpa using h i (by simpa using hi)
    have q0 := w8_0 n; have q1 := w8_1 n; have q2 := w8_2 n; have q3 := w8_3 n
    rw [hb 0 (by decide), hb 1 (by decide), hb 2 (by decide), hb 3 (by decide), hb 4 (by decide), hb 5 (by decide), hb 6 (by decide), hb 7 (by decide), w8_0 m] at q0
    rw [hb 8 (by decide), hb 9 (by decide), hb 10 (by decide), hb 11 (by decide), hb 12 (by decide), hb 13 (by decide), hb 14 (by decide), hb 15 (by decide), w8_1 m] at q1
    rw [hb 16 (by decide), hb 17 (by decide), hb 18 (by decide), hb 19 (by decide), hb 20 (by decide), hb 21 (by decide), hb 22 (by decide), hb 23 (by decide), w8_2 m] at q2
    rw [hb 24 (by decide), hb 25 (by decide), hb 26 (by decide), hb 27 (by decide), hb 28 (by decide), hb 29 (by decide), hb 30 (by decide), hb 31 (by decide), w8_3 m] at q3
    obtain ⟨h1, h2⟩ := hn; obtain ⟨h3, h4⟩ := hm
    clear h hb
    omega

theorem u8Info : ∃ i, Try.prog.info? 5 = some i := Option.isSome_iff_exists.1 (by kernel_rfl)
theorem u8Cells : Try.prog.cellsOf 5 = 1 := by kernel_rfl
@[go_sem] theorem eq_fe (n m : Int) (w : World) : (Op.equalIn 10000 23 (.agg (feC n)) (.agg (feC m))).run Try.prog w = .ok (eqf n m) w := by
  obtain ⟨i, hi⟩ := u8Info
  rw [show (10000 : Nat) = 9998 + 1 + 1 from rfl, run_equalIn_array w 9999 _ _ Try.underlying23 hi, u8Cells]
  exact eqItems_ints w 9998 Try.underlying5 _ _ (by8 n) (by8 m) (List.range 32) (fun j hj => ⟨feC_get n j (by simpa using hj), feC_get m j (by simpa using hj)⟩)
theorem feGuard : Try.prog.eqGuardType Try.prog.depth 23 = false := by kernel_rfl
@[go_sem] theorem ix_fe (n : Int) (w : World) : (Instr.index 23 (.agg (feC n)) (.int .i64 0)).run Try.prog w = .ok (.int .u8 (by8 n 0)) w := by kernel_rfl
theorem z32_fe : z32 = feC 0 := by simp [z32, feL, by8]

theorem Blk.range {w : World} {b : Nat} {n : Int} {T : TypeId} (h : Blk w b (feC n) T) : w.rangeAt b 0 (feL n) := fun j v hv => by
  rw [h.cell, Nat.zero_add]; simpa using hv

/-- In a region that draws its order: an operation that yields v wherever S holds is taken first (d: the slot that it writes). -/
theorem take_val {P : Program} {ops : Array Oper} {Q : Exit → Act → World → Prop} {md : Region.Mode} {S : World → Prop} {oi : Oper} {fuel : Nat} {listed : Array Bool} {a : Act} {w : World} {v : Value} (i : Nat) (d : Option Tmp) (hi : ops[i]? = some oi)
    (hs : Region.noSelect ops = true) (hf : Region.free md ops listed i = true) (hr : (Region.ready md ops listed).contains i = true)
    (hQ : ∀ c a w, Q (.panic c) (a.put d v) w → Q (.panic c) a w) (hd : oi.dst = d) (hw : Region.wanted oi (yielded ops a.tmps) = true)
    (hy : ∀ w, S w → (execOp a.eval oi).run P w = .ok (.value v) w) (hS : S w) (h : wpAnyH P md ops Q S fuel (listed.setIfInBounds i true) (a.put d v) w) : wpAnyH P md ops Q S (fuel + 1) listed a w := by
  subst hd
  exact wpAnyH_take hi hs hf hr hQ (Or.inl ⟨hw, hy⟩) hS h
/-- .. one whose guard says no. -/
theorem take_no {P : Program} {ops : Array Oper} {Q : Exit → Act → World → Prop} {md : Region.Mode} {S : World → Prop} {oi : Oper} {fuel : Nat} {listed : Array Bool} {a : Act} {w : World} (i : Nat) (d : Option Tmp) (hi : ops[i]? = some oi)
    (hs : Region.noSelect ops = true) (hf : Region.free md ops listed i = true) (hr : (Region.ready md ops listed).contains i = true)
    (hQ : ∀ c a w, Q (.panic c) (a.put d undef) w → Q (.panic c) a w) (hd : oi.dst = d) (hw : Region.wanted oi (yielded ops a.tmps) = false)
    (hS : S w) (h : wpAnyH P md ops Q S fuel (listed.setIfInBounds i true) (a.put d undef) w) : wpAnyH P md ops Q S (fuel + 1) listed a w := by
  subst hd
  exact wpAnyH_take hi hs hf hr hQ (Or.inr ⟨hw, rfl⟩) hS h
/-- .. a whole array is loaded, its block being known wherever S holds. -/
theorem take_load {P : Program} {ops : Array Oper} {Q : Exit → Act → World → Prop} {md : Region.Mode} {S : World → Prop} {oi : Oper} {fuel : Nat} {listed : Array Bool} {a : Act} {w : World} (i : Nat) (dt : Option Tmp) (cs : Array Value) (hi : ops[i]? = some oi)
    (hs : Region.noSelect ops = true) (hf : Region.free md ops listed i = true) (hr : (Region.ready md ops listed).contains i = true)
    (hQ : ∀ c a w, Q (.panic c) (a.put dt (.agg cs)) w → Q (.panic c) a w) (hdt : oi.dst = dt) (hw : Region.wanted oi (yielded ops a.tmps) = true) (ty : TypeId) (x : Operand) (ho : oi.op = .load ty x)
    (g : Nat) (hx : a.eval x = .pointer (some ⟨g, 0, none⟩)) (T : TypeId) (d : TypeDesc) (hB : ∀ w, S w → Blk w g cs T) (hu : P.underlying ty = some d)
    (hd : (match d with | .struct _ | .array _ _ => true | _ => false) = true) (hsz : (P.info? ty).map (·.size) = some cs.size) (hS : S w)
    (h : wpAnyH P md ops Q S fuel (listed.setIfInBounds i true) (a.put dt (.agg cs)) w) : wpAnyH P md ops Q S (fuel + 1) listed a w := by
  refine take_val i dt hi hs hf hr hQ hdt hw (fun w hSw => ?_) hS h
  unfold execOp
  simp only [ho, hx, Instr.loadAt, Instr.sureAddr, Sem.run_bind, Sem.run_pure, Result.andThen_ok, run_loadVar_row w g T ty cs (0, 0) d (hB w hSw) hu hd hsz]
end Go.Proofs.Ytialljmkkichiab
