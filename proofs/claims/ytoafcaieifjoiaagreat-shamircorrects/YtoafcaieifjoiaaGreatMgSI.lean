/- Joined: SInvM, SInv. -/
import Derived.Test.YtoafcaieifjoiaaGreatMgA
import Derived.Test.YtoafcaieifjoiaaGreatMgC
import Derived.Test.YtoafcaieifjoiaaGreatMgNm
import Derived.Test.YtoafcaieifjoiaaGreatMgB
import Derived.OwnWalk
/- Inverses modulo the order, running products. -/
set_option linter.unusedVariables false
set_option linter.unusedSimpArgs false
set_option linter.unnecessarySimpa false
namespace Go.Proofs.YtoafcaieifjoiaaGreat
open Go.RowKit N

theorem L_pos : 0 < L := by unfold L; decide
theorem iv_mul (n : Nat) (h : ¬ LN ∣ n) : iv (n : Int) * (n : Int) % L = 1 := by
  have e : pw (n : Int) 7237005577332262213973186563042994240857116359379907606001950938285454250987 * pw (n : Int) 1 % L = pw (n : Int) 7237005577332262213973186563042994240857116359379907606001950938285454250988 := pw_mul (n : Int) _ _ _ (by decide)
  rw [pw_last n h, pw_one, m_mul_r] at e
  exact e
theorem iv_bd (a : Int) : 0 ≤ iv a ∧ iv a < L := ⟨Int.emod_nonneg _ (by unfold L; decide), Int.emod_lt_of_pos _ L_pos⟩
/-- Whatever is 1 with n is its inverse. -/
theorem iv_one {x : Int} {n : Nat} (hx0 : 0 ≤ x) (hx1 : x < L) (h : ¬ LN ∣ n) (e : x * (n : Int) % L = 1) : x = iv (n : Int) := by
  have h1 : x * (iv (n : Int) * (n : Int)) % L = x := by
    rw [← m_mul_r, iv_mul n h, Int.mul_one, Int.emod_eq_of_lt hx0 hx1]
  have h2 : x * (iv (n : Int) * (n : Int)) % L = iv (n : Int) := by
    rw [show x * (iv (n : Int) * (n : Int)) = x * (n : Int) * iv (n : Int) by rw [Int.mul_comm (iv (n : Int)), Int.mul_assoc], ← m_mul_l, e, Int.one_mul, Int.emod_eq_of_lt (iv_bd _).1 (iv_bd _).2]
  rw [← h1, h2]
/-- The running product. -/
def rp (f : Nat → Nat) (i : Nat) : Int := pL f i % L
theorem rp_rl (f : Nat → Nat) (i : Nat) : RL (rp f i) := rl_mod _
theorem rp_s (f : Nat → Nat) (i : Nat) : rp f i * (((f i : Nat) : Int) % L) % L = rp f (i + 1) := pL_s f i
theorem rp_0 (f : Nat → Nat) : rp f 0 = 1 := by unfold rp; rw [pL_0]; unfold L; decide
theorem not_dvd_mul {a b : Nat} (ha : ¬ LN ∣ a) (hb : ¬ LN ∣ b) : ¬ LN ∣ a * b := fun h => by
  rcases pr_l.euclid (q := LN) h with h | h
  · exact ha h
  · exact hb h
theorem not_dvd_one : ¬ LN ∣ 1 := fun h => by
  have := Nat.le_of_dvd (by decide) h
  unfold LN at this
  omega
theorem rp_ne (f : Nat → Nat) : ∀ i, (∀ j, j < i → ¬ LN ∣ f j) → ∃ n : Nat, rp f i = (n : Int) ∧ ¬ LN ∣ n
  | 0, _ => ⟨1, rp_0 f, not_dvd_one⟩
  | i + 1, h => by
    obtain ⟨n, hn, hd⟩ := rp_ne f i (fun j hj => h j (by omega))
    refine ⟨n * f i % LN, ?_, fun hx => ?_⟩
    · rw [← rp_s, hn, m_mul_r, Int.natCast_emod, LN_eq, Int.natCast_mul]
    · exact not_dvd_mul hd (h i (by omega)) ((Nat.dvd_mod_iff (Nat.dvd_refl LN)).1 hx)
theorem first_R {f : Nat → Nat} {N : Nat} (h : ∀ j, j < N → ¬ LN ∣ f j) : iv (rp f N) * rp f N % L = 1 := by
  obtain ⟨n, hn, hd⟩ := rp_ne f N h
  rw [hn]
  exact iv_mul n hd
/-- One step back: what is answered at place i, and what goes on. -/
theorem back_out {f : Nat → Nat} {i : Nat} {R : Int} (h : ¬ LN ∣ f i) (hR : R * rp f (i + 1) % L = 1) : rp f i * R % L = iv ((f i : Nat) : Int) := by
  refine iv_one (Int.emod_nonneg _ (by unfold L; decide)) (Int.emod_lt_of_pos _ L_pos) h ?_
  have e1 : rp f i * R % L * ((f i : Nat) : Int) % L = R * (rp f i * ((f i : Nat) : Int)) % L := by
    rw [m_mul_l, Int.mul_assoc, Int.mul_left_comm]
  rw [e1, ← m_mul_r, ← m_mul_r (rp f i), rp_s, hR]
theorem back_rest {f : Nat → Nat} {i : Nat} {R : Int} (hR : R * rp f (i + 1) % L = 1) : R * (((f i : Nat) : Int) % L) % L * rp f i % L = 1 := by
  rw [m_mul_l, Int.mul_assoc, Int.mul_comm (((f i : Nat) : Int) % L), ← m_mul_r, rp_s, hR]
theorem zero_dec (n : Nat) : eqn ((n : Int) % L) 0 = decide (LN ∣ n) := by
  rw [eqn_eq (rl_mod _) ⟨by decide, by decide⟩]
  congr 1
  rw [eq_iff_iff]
  exact mod_zero_iff n
/-- Rows: zero ahead of i, inverses from i on. -/
def ivR (f : Nat → Nat) (i : Nat) : Nat → List Value := fun j => if j < i then feL 0 else feL (iv ((f j : Nat) : Int))
theorem ivR_step (f : Nat → Nat) (i : Nat) : upR (ivR f (i + 1)) i (feL (iv ((f i : Nat) : Int))) = ivR f i := by
  funext j; unfold upR ivR
  by_cases h : j = i
  · subst h; rw [if_pos rfl, if_neg (by omega)]
  · rw [if_neg h]
    by_cases h2 : j < i
    · rw [if_pos h2, if_pos (by omega)]
    · rw [if_neg h2, if_neg (by omega)]
theorem feL_ok4 (n : Int) : (feL n).length = 32 ∧ ∀ v ∈ feL n, v.oneCell' = true := ⟨rfl, by simp [feL, Value.oneCell']⟩
theorem ivR_ok (f : Nat → Nat) (i m : Nat) : Rok 32 m (ivR f i) := fun j _ => by
  unfold ivR
  split <;> exact feL_ok4 _
theorem scRow4 : ∃ i, Tryz.prog.info? 24 = some i ∧ i.zero = some (.agg z32) ∧ i.size = 32 ∧ i.bytes = 32 := by
  have h : (Tryz.prog.info? 24).map (fun i => (i.zero, i.size, i.bytes)) = some (some (.agg z32), 32, 32) := by kernel_rfl
  cases hi : Tryz.prog.info? 24 with
  | none => rw [hi] at h; simp at h
  | some i => rw [hi] at h; simp at h; exact ⟨i, rfl, h.1, h.2.1, h.2.2⟩
theorem make_sc4 (r : Nat) (hr : r ≤ 4398046511104) (W : World) : (Instr.makeSlice 22 (.int .i64 (r : Int)) (.int .i64 (r : Int))).run Tryz.prog W = .ok (.slice (some ⟨W.heap.size, 0, none⟩) r r) (W.alloc (.cells (rL 32 r fun _ => z32.toList).toArray 24)) := by
  obtain ⟨i, hi, hz, h1, h2⟩ := scRow4
  have h := run_make (P := Tryz.prog) W 22 24 i (.agg z32) Tryz.underlying22 hi hz .i64 .i64 (r : Int) (r : Int) (by omega) (by omega) (by rw [h2]; omega) (by omega)
  rw [h, h1, Int.toNat_natCast]
  show Result.ok _ (W.alloc (.cells (madeCells z32 (r * 32)) 24)) = _
  rw [made_r z32 32 r rfl]
theorem wdL_zero : wdL 0 = [.int .u64 0, .int .u64 0, .int .u64 0, .int .u64 0] := by simp [wdL, wrd]
theorem nuRow4 : ∃ i, Tryz.prog.info? 162 = some i ∧ i.zero = some (.agg #[.int .u64 0, .int .u64 0, .int .u64 0, .int .u64 0]) ∧ i.size = 4 ∧ i.bytes = 32 := by
  have h : (Tryz.prog.info? 162).map (fun i => (i.zero, i.size, i.bytes)) = some (some (.agg #[.int .u64 0, .int .u64 0, .int .u64 0, .int .u64 0]), 4, 32) := by kernel_rfl
  cases hi : Tryz.prog.info? 162 with
  | none => rw [hi] at h; simp at h
  | some i => rw [hi] at h; simp at h; exact ⟨i, rfl, h.1, h.2.1, h.2.2⟩
theorem make_nu4 (r : Nat) (hr : r ≤ 4398046511104) (W : World) : (Instr.makeSlice 233 (.int .i64 (r : Int)) (.int .i64 (r : Int))).run Tryz.prog W = .ok (.slice (some ⟨W.heap.size, 0, none⟩) r r) (W.alloc (.cells (rL 4 r fun _ => wdL 0).toArray 162)) := by
  obtain ⟨i, hi, hz, h1, h2⟩ := nuRow4
  have h := run_make (P := Tryz.prog) W 233 162 i _ Tryz.underlying233 hi hz .i64 .i64 (r : Int) (r : Int) (by omega) (by omega) (by rw [h2]; omega) (by omega)
  rw [h, h1, Int.toNat_natCast, wdL_zero]
  show Result.ok _ (W.alloc (.cells (madeCells #[.int .u64 0, .int .u64 0, .int .u64 0, .int .u64 0] (r * 4)) 162)) = _
  rw [made_r _ 4 r rfl]
/-- Rows: running products below i, zeros from i on. -/
def rpR (f : Nat → Nat) (i : Nat) : Nat → List Value := fun j => if j < i then wdL (rp f j) else wdL 0
theorem rpR_ok (f : Nat → Nat) (i m : Nat) : Rok 4 m (rpR f i) := fun j _ => by
  unfold rpR
  split <;> exact wdL_ok _
theorem rpR_step (f : Nat → Nat) (i : Nat) : upR (rpR f i) i (wdL (rp f i)) = rpR f (i + 1) := by
  funext j; unfold upR rpR
  by_cases h : j = i
  · subst h; rw [if_pos rfl, if_pos (by omega)]
  · rw [if_neg h]
    by_cases h2 : j < i
    · rw [if_pos h2, if_pos (by omega)]
    · rw [if_neg h2, if_neg (by omega)]
end Go.Proofs.YtoafcaieifjoiaaGreat

/- scalar.InvertAll. -/
namespace Go.Proofs.YtoafcaieifjoiaaGreat
open Go.RowKit N

/-- What InvertAll answers: the place of the first that has none; or the inverses, in a block that is new. -/
def IvP (f : Nat → Nat) (N : Nat) (w : World) (e : Ending) (w' : World) : Prop :=
  (∃ k, k < N ∧ LN ∣ f k ∧ (∀ j, j < k → ¬ LN ∣ f j) ∧ e = .returned (.tuple #[.slice none 0 0, .int .i64 9, .int .i64 (k : Int)])) ∨
  ((∀ j, j < N → ¬ LN ∣ f j) ∧ ∃ o, w.heap.size ≤ o ∧ e = .returned (.tuple #[.slice (some ⟨o, 0, none⟩) N N, .int .i64 0, .int .i64 0]) ∧ Blk w' o (rL 32 N (ivR f 0)).toArray 24)
theorem ZN : #[.int .u64 1, .int .u64 0, .int .u64 0, .int .u64 0] = wd4 1 := by kernel_rfl
set_option maxHeartbeats 16000000 in
set_option maxRecDepth 100000 in
theorem InvertAll_s (v : Value) (N : Nat) (f : Nat → Nat) (hN : N ≤ 4398046511104) (w : World) (hL : Ls w v N f) :
    Calls Tryz.prog 131 #[v] w fun e w' => IvP f N w e w' ∧ Chg w w' [] := by
  have hge := numGuard
  obtain ⟨p, cp, rfl, hp⟩ := hL.form
  have HN : Hid (N ≤ 4398046511104) := hN
  have HP : Hid (∀ (i : Nat), i < N → ∃ g o, p = some ⟨g, o, none⟩ ∧ g < w.heap.size ∧ Fc w g (o + i * 32) ((f i : Nat) : Int)) := hp
  have HB : Hid (∀ i, i < N → f i < 115792089237316195423570985008687907853269984665640564039457584007913129639936) := hL.1
  have hmk := make_nu4 N hN
  have A0 : Blk (((w.alloc (.cells (rL 4 N fun _ => wdL 0).toArray 162)).alloc (.cells #[.int .u64 1, .int .u64 0, .int .u64 0, .int .u64 0] 162)).alloc (.cells #[.int .u64 0, .int .u64 0, .int .u64 0, .int .u64 0] 162)) w.heap.size (rL 4 N fun _ => wdL 0).toArray 162 := ((Blk.new w _ _).alloc _).alloc _
  have R0 : NumAt (((w.alloc (.cells (rL 4 N fun _ => wdL 0).toArray 162)).alloc (.cells #[.int .u64 1, .int .u64 0, .int .u64 0, .int .u64 0] 162)).alloc (.cells #[.int .u64 0, .int .u64 0, .int .u64 0, .int .u64 0] 162)) (w.heap.size + 1) 1 := by
    have q : Blk (((w.alloc (.cells (rL 4 N fun _ => wdL 0).toArray 162)).alloc (.cells #[.int .u64 1, .int .u64 0, .int .u64 0, .int .u64 0] 162)).alloc (.cells #[.int .u64 0, .int .u64 0, .int .u64 0, .int .u64 0] 162)) (w.alloc (.cells (rL 4 N fun _ => wdL 0).toArray 162)).heap.size #[.int .u64 1, .int .u64 0, .int .u64 0, .int .u64 0] 162 := (Blk.new (w.alloc (.cells (rL 4 N fun _ => wdL 0).toArray 162)) _ _).alloc _
    show Blk _ _ (wd4 1) _
    rw [← ZN]
    simpa using q
  have X0 : An (((w.alloc (.cells (rL 4 N fun _ => wdL 0).toArray 162)).alloc (.cells #[.int .u64 1, .int .u64 0, .int .u64 0, .int .u64 0] 162)).alloc (.cells #[.int .u64 0, .int .u64 0, .int .u64 0, .int .u64 0] 162)) (w.heap.size + 1 + 1) := by
    have q := (NumAt.new ((w.alloc (.cells (rL 4 N fun _ => wdL 0).toArray 162)).alloc (.cells #[.int .u64 1, .int .u64 0, .int .u64 0, .int .u64 0] 162))).an
    simpa using q
  have C0 : Chg w (((w.alloc (.cells (rL 4 N fun _ => wdL 0).toArray 162)).alloc (.cells #[.int .u64 1, .int .u64 0, .int .u64 0, .int .u64 0] 162)).alloc (.cells #[.int .u64 0, .int .u64 0, .int .u64 0, .int .u64 0] 162)) [] := (((Chg.refl w []).alloc _).alloc _).alloc _
  clear hp hL
  go_enter Tryz.func131, Tryz.ntmps131
  go_wp2_with fail
  clear hmk
  generalize (((w.alloc (.cells (rL 4 N fun _ => wdL 0).toArray 162)).alloc (.cells #[.int .u64 1, .int .u64 0, .int .u64 0, .int .u64 0] 162)).alloc (.cells #[.int .u64 0, .int .u64 0, .int .u64 0, .int .u64 0] 162)) = v0 at *
  obtain ⟨ab, hab⟩ : ∃ b, w.heap.size = b := ⟨_, rfl⟩
  have HAB : Hid (w.heap.size = ab) := hab
  rw [hab] at A0 R0 X0
  rw [hab]
  obtain ⟨rb, hrb⟩ : ∃ b, ab + 1 = b := ⟨_, rfl⟩
  obtain ⟨xb, hxb⟩ : ∃ b, ab + 1 + 1 = b := ⟨_, rfl⟩
  rw [hrb] at R0
  rw [hxb] at X0
  rw [hxb, hrb]
  have HD : Hid (¬ ab = rb ∧ ¬ ab = xb ∧ ¬ rb = xb) := by show ¬ ab = rb ∧ ¬ ab = xb ∧ ¬ rb = xb; omega
  have HBx : Hid (w.heap.size ≤ xb) := by show w.heap.size ≤ xb; omega
  have HBa : Hid (w.heap.size ≤ ab) := by show w.heap.size ≤ ab; omega
  have HBr : Hid (w.heap.size ≤ rb) := by show w.heap.size ≤ rb; omega
  have HG : Hid (∀ g, g < w.heap.size → ¬ g = xb) := fun g hg => by omega
  have A1 : Blk v0 ab (rL 4 N (rpR f 0)).toArray 162 := A0.to (congrArg List.toArray (rL_congr fun j _ => (if_neg (by omega)).symm))
  have R1 : NumAt v0 rb (rp f 0) := by rw [rp_0]; exact R0
  clear hab hrb hxb hN A0 R0
  go_loopw [18] (fun t wr => ∃ i : Nat, i ≤ N ∧ t = .int .i64 (i : Int) ∧ (∀ j, j < i → ¬ LN ∣ f j) ∧ Blk wr ab (rL 4 N (rpR f i)).toArray 162 ∧ An wr xb ∧ NumAt wr rb (rp f i) ∧ Chg w wr []) (fun t _ => (N - intOf t).toNat)
  case atStart => exact ⟨0, Nat.zero_le _, rfl, fun j hj => by omega, A1, X0, R1, C0⟩
  case round =>
    clear A1 X0 R1 C0
    obtain ⟨i, hi, rfl, hnz, A, X, Rr, C⟩ := hrel
    by_cases h : i < N
    · have hI : (i : Int) < (N : Int) := by omega
      have hI0 : (0 : Int) ≤ (i : Int) := by omega
      have e1 : IntKind.i64.wrap ((i : Int) + 1) = (i : Int) + 1 := by have := HN.out; rw [IntKind.wrap_i64]; omega
      have HM : Hid _ := mN N i h
      have HI : Hid (i < N) := h
      have HNZ : Hid (∀ j, j < i → ¬ LN ∣ f j) := hnz
      obtain ⟨g, o, rfl, hg, hF⟩ := HP.out i h
      have HFc : Hid (Fc w g (o + i * 32) ((f i : Nat) : Int)) := hF
      have HGX : Hid (¬ g = xb) := HG.out g hg
      have r1 : Hid (R256 ((f i : Nat) : Int)) := by have := HB.out i h; exact ⟨by omega, by omega⟩
      have HO : Hid (Rok 4 N (rpR f i)) := rpR_ok f i N
      have HF : Hid (upR (rpR f i) i (wdL (rp f i)) = rpR f (i + 1)) := rpR_step f i
      have HS : Hid (rp f i * (((f i : Nat) : Int) % L) % L = rp f (i + 1)) := rp_s f i
      have HZD : Hid (eqn (((f i : Nat) : Int) % L) 0 = decide (LN ∣ f i)) := zero_dec (f i)
      have HRL : Hid (RL (rp f i)) := rp_rl f i
      obtain ⟨S, hS⟩ : ∃ S : Int, rp f i = S := ⟨_, rfl⟩
      rw [hS] at Rr HF HS HRL
      obtain ⟨Q0, hQ⟩ : ∃ Q, rpR f i = Q := ⟨_, rfl⟩
      rw [hQ] at A HO HF
      clear hi h hg hF HP HB hS hnz hQ
      go_wp2_with fail
      refine (load_at xb g (o + i * 32) ((f i : Nat) : Int) r1.out HGX.out wr X (HFc.out.chg C (by simp))).mono ?_
      rintro e w1 ⟨rfl, Xn, k⟩
      replace A := A.chg k (by have := HD.out.2.1; simp; omega)
      replace Rr := Rr.chg k (by have := HD.out.2.2; simp; omega)
      replace C := C.new k HBx.out
      clear k X
      have XB : Blk w1 xb (wd4 (((f i : Nat) : Int) % L)) 162 := Xn
      have RB : Blk w1 rb (wd4 S) 162 := Rr
      by_cases hz : LN ∣ f i
      · have hzd : eqn (((f i : Nat) : Int) % L) 0 = true := by rw [HZD.out]; exact decide_eq_true hz
        have HZ : Hid (LN ∣ f i) := hz
        clear hz HZD HF HS
        go_wp2_with (with_reducible refine load_b XB 162 (.tmp 7) Tryz.underlying162 ?_ ?_ ?_ ?_ ?_ ?_
                     · rfl
                     · rfl
                     · rfl
                     · rfl
                     · exact numInfo)
        go_ret3
        exact ⟨Or.inl ⟨i, HI.out, HZ.out, HNZ.out, rfl⟩, C⟩
      · have hzd : eqn (((f i : Nat) : Int) % L) 0 = false := by rw [HZD.out]; exact decide_eq_false hz
        have HNZ2 : Hid (∀ j, j < i + 1 → ¬ LN ∣ f j) := fun j hj => by
          rcases Nat.lt_or_ge j i with h | h
          · exact HNZ.out j h
          · rw [show j = i by omega]; exact hz
        clear hz HZD HNZ
        go_wp2_with (first
          | (with_reducible refine load_b XB 162 (.tmp 7) Tryz.underlying162 ?_ ?_ ?_ ?_ ?_ ?_
             · rfl
             · rfl
             · rfl
             · rfl
             · exact numInfo)
          | (with_reducible refine load_b RB 162 (.tmp 6) Tryz.underlying162 ?_ ?_ ?_ ?_ ?_ ?_
             · rfl
             · rfl
             · rfl
             · rfl
             · exact numInfo)
          | (with_reducible refine wpList_store_rw ?_ 162 (.tmp 32) (.tmp 31) ?_ ab 4 N i Q0 (wdL S) 162 ?_ ?_ A HO.out HI.out (wdL_ok S).1 (wdL_ok S).2 numInfo ?_
             · rfl
             · rfl
             · rfl
             · rfl
             intro w2 b2 k2
             rw [HF.out] at b2))
        replace Xn := Xn.chg k2 (by have := HD.out.2.1; simp; omega)
        replace Rr := Rr.chg k2 (by have := HD.out.1; simp; omega)
        replace C := C.new k2 HBa.out
        clear k2 A HO XB RB
        refine (mul_any rb rb xb S _ HRL.out (rl_mod _) w2 Rr.an Rr Xn).mono ?_
        rintro e w3 ⟨rfl, Rn, k⟩
        rw [HS.out] at Rn
        replace b2 := b2.chg k (by have := HD.out.1; simp; omega)
        replace Xn := Xn.chg k (by have := HD.out.2.2; simp; omega)
        replace C := C.new k HBr.out
        clear k Rr
        go_wp2_with fail
        exact ⟨⟨i + 1, HI.out, by go_num, HNZ2.out, b2, Xn.an, Rn, C⟩, HM.out⟩
    · obtain rfl : i = N := by omega
      have hI : ¬ (i : Int) < (i : Int) := by omega
      have HNZ : Hid (∀ j, j < i → ¬ LN ∣ f j) := hnz
      have HRL : Hid (RL (rp f i)) := rp_rl f i
      have HFR : Hid (iv (rp f i) * rp f i % L = 1) := first_R hnz
      have hmk := make_sc4 i HN.out
      have A2 : Hid (∀ j, j < i → rpR f i j = wdL (rp f j)) := fun j hj => if_pos hj
      clear h hi hnz
      go_wp2_with fail
      refine (invert_any rb rb (rp f i) HRL.out wr Rr.an Rr).mono ?_
      rintro e w1 ⟨rfl, Rn, k⟩
      obtain ⟨R, hRe⟩ : ∃ R, iv (rp f i) = R := ⟨_, rfl⟩
      have Rm : NumAt w1 rb R := by rw [← hRe]; exact Rn
      have hRR : RL R := by rw [← hRe]; exact pw_rl _ _
      have HR : Hid (R * rp f i % L = 1) := by rw [← hRe]; exact HFR.out
      replace A := A.chg k (by have := HD.out.1; simp; omega)
      replace X := X.chg k (by have := HD.out.2.2; simp; omega)
      replace C := C.new k HBr.out
      have HSZ : Hid (w.heap.size ≤ w1.heap.size) := C.size
      have HAL : Hid (ab < w1.heap.size ∧ rb < w1.heap.size ∧ xb < w1.heap.size) := ⟨A.lt, Rm.lt, X.lt⟩
      have O0 : Blk (w1.alloc (.cells (rL 32 i fun _ => z32.toList).toArray 24)) w1.heap.size (rL 32 i fun _ => z32.toList).toArray 24 := Blk.new w1 _ _
      replace A := A.alloc (.cells (rL 32 i fun _ => z32.toList).toArray 24)
      replace X := X.alloc (.cells (rL 32 i fun _ => z32.toList).toArray 24)
      replace Rm := Rm.alloc (.cells (rL 32 i fun _ => z32.toList).toArray 24)
      replace C := C.alloc (.cells (rL 32 i fun _ => z32.toList).toArray 24)
      clear k Rn Rr hRe HFR HRL
      go_wp2_with fail
      clear hmk
      generalize (w1.alloc (.cells (rL 32 i fun _ => z32.toList).toArray 24)) = w2 at *
      obtain ⟨ob, hob⟩ : ∃ b, w1.heap.size = b := ⟨_, rfl⟩
      rw [hob] at O0 HAL HSZ
      rw [hob]
      have HBo : Hid (w.heap.size ≤ ob) := HSZ
      have HDo : Hid (¬ ob = ab ∧ ¬ ob = rb ∧ ¬ ob = xb) := by have := HAL.out; show ¬ ob = ab ∧ ¬ ob = rb ∧ ¬ ob = xb; omega
      have O1 : Blk w2 ob (rL 32 i (ivR f i)).toArray 24 := O0.to (congrArg List.toArray (rL_congr fun j hj => by unfold ivR; rw [if_pos hj, z32_fe]))
      clear hob O0 HSZ HAL
      go_loopw [41] (fun t wr => ∃ (q k : Nat) (F : Nat → List Value) (R : Int), q + k = i ∧ t = .int .i64 (q : Int) ∧ Rok 4 i F ∧ (∀ j, j < k → F j = wdL (rp f j)) ∧ Blk wr ab (rL 4 i F).toArray 162 ∧ Blk wr ob (rL 32 i (ivR f k)).toArray 24 ∧ An wr xb ∧ NumAt wr rb R ∧ RL R ∧ R * rp f k % L = 1 ∧ Chg w wr []) (fun t _ => (i - intOf t).toNat)
      case atStart => exact ⟨0, i, rpR f i, R, by omega, rfl, rpR_ok f i i, A2.out, A, O1, X, Rm, hRR, HR.out, C⟩
      case round =>
        clear O1 X A Rm HR C hI R hRR A2
        obtain ⟨q, k, F, R, hqk, rfl, hF, hFj, A, O, X, Rr, hRL, hR, C⟩ := hrel
        rcases k with _ | k
        · obtain rfl : q = i := by omega
          have hI : ¬ (q : Int) < (q : Int) := by omega
          go_wp2_with fail
          go_ret3
          exact ⟨Or.inr ⟨HNZ.out, ob, HBo.out, rfl, O⟩, C⟩
        · have hI : (q : Int) < (i : Int) := by omega
          have hI0 : (0 : Int) ≤ (q : Int) := by omega
          have e1 : IntKind.i64.wrap ((q : Int) + 1) = (q : Int) + 1 := by have := HN.out; rw [IntKind.wrap_i64]; omega
          have e2 : IntKind.i64.wrap ((i : Int) - 1) = (i : Int) - 1 := by have := HN.out; rw [IntKind.wrap_i64]; omega
          have e3 : IntKind.i64.wrap ((i : Int) - 1 - (q : Int)) = (k : Int) := by have := HN.out; rw [IntKind.wrap_i64]; omega
          have hK0 : (0 : Int) ≤ (k : Int) := by omega
          have hK1 : (k : Int) < (i : Int) := by omega
          have HK : Hid (k < i) := by show k < i; omega
          have HQ : Hid (q + 1 + k = i) := by show q + 1 + k = i; omega
          have HM : Hid _ := mN i q (by omega)
          obtain ⟨g, o, rfl, hg, hFc⟩ := HP.out k HK.out
          have HFc : Hid (Fc w g (o + k * 32) ((f k : Nat) : Int)) := hFc
          have HGX : Hid (¬ g = xb) := HG.out g hg
          have r1 : Hid (R256 ((f k : Nat) : Int)) := by have := HB.out k HK.out; exact ⟨by omega, by omega⟩
          have HOF : Hid (Rok 4 i F) := hF
          have HWc : Hid (Wc (rL 4 i F).toArray (k * 4) (rp f k)) := Wc.row hF HK.out (hFj k (by omega))
          have HRr : Hid (RL (rp f k)) := rp_rl f k
          have HRL : Hid (RL R) := hRL
          have HFJ : Hid (∀ x, ∀ j, j < k → upR F k x j = wdL (rp f j)) := fun x j hj => by unfold upR; rw [if_neg (by omega)]; exact hFj j (by omega)
          have HOut : Hid (rp f k * R % L = iv ((f k : Nat) : Int)) := back_out (HNZ.out k HK.out) hR
          have HRest : Hid (R * (((f k : Nat) : Int) % L) % L * rp f k % L = 1) := back_rest hR
          have HIS : Hid (upR (ivR f (k + 1)) k (feL (iv ((f k : Nat) : Int))) = ivR f k) := ivR_step f k
          have HIO : Hid (Rok 32 i (ivR f (k + 1))) := ivR_ok f (k + 1) i
          obtain ⟨I, hIe⟩ : ∃ I, iv ((f k : Nat) : Int) = I := ⟨_, rfl⟩
          have HIR : Hid (R256 I) := by rw [← hIe]; exact r256_rl (pw_rl _ _)
          rw [hIe] at HOut HIS
          obtain ⟨Q0, hQ0⟩ : ∃ Q, ivR f (k + 1) = Q := ⟨_, rfl⟩
          rw [hQ0] at O HIS HIO
          clear hR hRL hF hFj hg hFc hIe hqk hQ0
          go_wp2_with fail
          refine wp_region_held_drew (S := fun w' => Chg wr w' [ab]) (by kernel_rfl) ((Chg.refl wr _).drew) (fun hHeld => ?_)
          refine tv (v := ?_) 0 (some 49) rfl (by kernel_rfl) (fun _ _ _ h => h) rfl rfl (fun w hSw => ?_) hHeld ?_; rotate_left; (· (go_simp; try with_reducible rfl)); try simp only [Act.put, sA1, sA2, sA3]
          refine tv (v := ?_) 1 (some 50) rfl (by kernel_rfl) (fun _ _ _ h => h) rfl rfl (fun w hSw => ?_) hHeld ?_; rotate_left; (· (go_simp; try with_reducible rfl)); try simp only [Act.put, sA1, sA2, sA3]
          refine tv (v := ?_) 2 (some 51) rfl (by kernel_rfl) (fun _ _ _ h => h) rfl rfl (fun w hSw => ?_) hHeld ?_; rotate_left; (· (go_simp; try with_reducible rfl)); try simp only [Act.put, sA1, sA2, sA3]
          refine tv (v := ?_) 3 (some 52) rfl (by kernel_rfl) (fun _ _ _ h => h) rfl rfl (fun w hSw => ?_) hHeld ?_; rotate_left; (· (go_simp; try with_reducible rfl)); try simp only [Act.put, sA1, sA2, sA3]
          refine tv (v := ?_) 4 (some 53) rfl (by kernel_rfl) (fun _ _ _ h => h) rfl rfl (fun w hSw => ?_) hHeld ?_; rotate_left; (· (go_simp; try with_reducible rfl)); try simp only [Act.put, sA1, sA2, sA3]
          refine tv (v := ?_) 5 (some 54) rfl (by kernel_rfl) (fun _ _ _ h => h) rfl rfl (fun w hSw => ?_) hHeld ?_; rotate_left; (· (go_simp; try with_reducible rfl)); try simp only [Act.put, sA1, sA2, sA3]
          refine wpAnyH_ready (rs := [6]) (by kernel_rfl) (by simp) ?_
          refine AllReadyH.cons (o := _) rfl (fun K hK => ?_) ?_
          ·
            go_simp
            refine (mul_o ab (k * 4) _ 162 rb (rp f k) R HRr.out HRL.out wr.drew A.drew HWc.out Rr).mono ?_
            rintro e w3 ⟨rfl, A3, kk⟩
            rw [HOut.out, setL_row HOF.out HK.out (wdL_ok I).1 (wdL_ok I).2] at A3
            have KK : Chg wr w3 [ab] := hHeld.trans1 kk
            go_wp2_with fail
            refine hK.out _ _ KK (fun hHeld => ?_)
            clear hK K
            try simp only [Act.put, sA1, sA2, sA3]
            refine wpAnyH_done (by kernel_rfl) ?_ _
            replace O := O.chg KK (by have := HDo.out.1; simp; omega)
            replace X := X.chg KK (by have := HD.out.2.1; simp; omega)
            replace Rr := Rr.chg KK (by have := HD.out.1; simp; omega)
            replace C := C.new KK HBa.out
            have HWI : Hid (Wc (rL 4 i (upR F k (wdL I))).toArray (k * 4) I) := Wc.row (HOF.out.up k (wdL_ok I).1 (wdL_ok I).2) HK.out (by unfold upR; rw [if_pos rfl])
            clear hHeld kk KK A HWc
            go_wp2_with fail
            refine (bytes_o ab (k * 4) _ 162 I HIR.out w3 A3 HWI.out).mono ?_
            rintro e w4 ⟨rfl, kk⟩
            replace O := O.chg kk (by simp)
            replace A3 := A3.chg kk (by simp)
            replace X := X.chg kk (by simp)
            replace Rr := Rr.chg kk (by simp)
            replace C := C.trans1 kk
            clear kk HWI
            go_wp2_with (with_reducible refine wpList_store_rw ?_ 24 (.tmp 62) (.tmp 61) ?_ ob 32 i k Q0 (feL I) 24 ?_ ?_ O HIO.out HK.out (feL_ok4 I).1 (feL_ok4 I).2 feInfo ?_
                         · rfl
                         · rfl
                         · rfl
                         · rfl
                         intro w5 O5 k5
                         rw [HIS.out] at O5)
            replace A3 := A3.chg k5 (by have := HDo.out.1; simp; omega)
            replace X := X.chg k5 (by have := HDo.out.2.2; simp; omega)
            replace Rr := Rr.chg k5 (by have := HDo.out.2.1; simp; omega)
            replace C := C.new k5 HBo.out
            clear k5 O HIO
            refine (load_at xb g (o + k * 32) ((f k : Nat) : Int) r1.out HGX.out w5 X (HFc.out.chg C (by simp))).mono ?_
            rintro e w6 ⟨rfl, Xn, kk⟩
            replace A3 := A3.chg kk (by have := HD.out.2.1; simp; omega)
            replace O5 := O5.chg kk (by have := HDo.out.2.2; simp; omega)
            replace Rr := Rr.chg kk (by have := HD.out.2.2; simp; omega)
            replace C := C.new kk HBx.out
            clear kk X
            go_wp2_with fail
            refine (mul_any rb rb xb R _ HRL.out (rl_mod _) w6 Rr.an Rr Xn).mono ?_
            rintro e w7 ⟨rfl, Rn, kk⟩
            replace A3 := A3.chg kk (by have := HD.out.1; simp; omega)
            replace O5 := O5.chg kk (by have := HDo.out.2.1; simp; omega)
            replace Xn := Xn.chg kk (by have := HD.out.2.2; simp; omega)
            replace C := C.new kk HBr.out
            clear kk Rr
            go_wp2_with fail
            exact ⟨⟨q + 1, k, upR F k (wdL I), _, HQ.out, by go_num, HOF.out.up k (wdL_ok I).1 (wdL_ok I).2, HFJ.out _, A3, O5, Xn.an, Rn, rl_mod _, HRest.out, C⟩, HM.out⟩
          exact AllReadyH.nil
end Go.Proofs.YtoafcaieifjoiaaGreat
