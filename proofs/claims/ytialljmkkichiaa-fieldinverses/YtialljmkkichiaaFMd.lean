/- Layer 1, for FieldInverses: FInvA, FInvB, RInvA. -/
import Derived.Test.YtialljmkkichiaaFMb
import Derived.Test.YtialljmkkichiaaFMa
import Derived.Test.YtialljmkkichiaaPowers
import Derived.Test.YtialljmkkichiaaRFun2
import Derived.Great.BuildSlice
set_option linter.unusedVariables false
set_option linter.unusedSimpArgs false
set_option linter.unnecessarySimpa false
namespace Go.Proofs.Ytialljmkkichiaa
section
open Go.RowKit N

/-! ### Running products -/
/-- The product of those ahead of place i that are not 0. -/
def rsN (f : Nat → Nat) : Nat → Nat
  | 0 => 1
  | i + 1 => if f i % PN = 0 then rsN f i else rsN f i * (f i % PN) % PN
theorem PN_pos : 0 < PN := by unfold PN; decide
theorem rsN_lt (f : Nat → Nat) : ∀ i, rsN f i < PN
  | 0 => by show 1 < PN; unfold PN; decide
  | i + 1 => by
    show (if f i % PN = 0 then rsN f i else rsN f i * (f i % PN) % PN) < PN
    split
    · exact rsN_lt f i
    · exact Nat.mod_lt _ PN_pos
theorem rsN_zero {f : Nat → Nat} {i : Nat} (h : f i % PN = 0) : rsN f (i + 1) = rsN f i := if_pos h
theorem rsN_step {f : Nat → Nat} {i : Nat} (h : ¬ f i % PN = 0) : rsN f (i + 1) = rsN f i * (f i % PN) % PN := if_neg h
theorem not_dvd_mul {a b : Nat} (ha : ¬ PN ∣ a) (hb : ¬ PN ∣ b) : ¬ PN ∣ a * b := fun h => by
  rcases pr_p.euclid (q := PN) h with h | h
  · exact ha h
  · exact hb h
theorem rsN_ne (f : Nat → Nat) : ∀ i, ¬ PN ∣ rsN f i
  | 0 => by
    show ¬ PN ∣ 1
    intro h
    have := Nat.le_of_dvd (by decide) h
    unfold PN at this
    omega
  | i + 1 => by
    by_cases h : f i % PN = 0
    · rw [rsN_zero h]; exact rsN_ne f i
    · rw [rsN_step h]
      intro hd
      have h1 : PN ∣ rsN f i * (f i % PN) := (Nat.dvd_mod_iff (Nat.dvd_refl PN)).1 hd
      exact not_dvd_mul (rsN_ne f i) (fun h2 => h (by have := Nat.mod_eq_zero_of_dvd h2; rw [Nat.mod_mod] at this; exact this)) h1
/-- The inverse (0 where there is none). -/
abbrev ivq (a : Int) : Int := pw a 57896044618658097711785492504343953926634992332820282019728792003956564819947
theorem ivq_mul (n : Nat) (h : ¬ PN ∣ n) : ivq (n : Int) * (n : Int) % P = 1 := by
  have e : pw (n : Int) 57896044618658097711785492504343953926634992332820282019728792003956564819947 * pw (n : Int) 1 % P = pw (n : Int) 57896044618658097711785492504343953926634992332820282019728792003956564819948 := pw_mul (n : Int) _ _ _ (by decide)
  rw [pw_last n h, pw_one, m_mul_r] at e
  exact e
theorem ivq_zero (n : Nat) (h : PN ∣ n) : ivq (n : Int) = 0 := pw_none n _ (by decide) h
theorem ivq_bd (a : Int) : 0 ≤ ivq a ∧ ivq a < P := ⟨Int.emod_nonneg _ (by unfold P; decide), Int.emod_lt_of_pos _ (by unfold P; decide)⟩
/-- Whatever is 1 with n is its inverse. -/
theorem ivq_one {x : Int} {n : Nat} (hx0 : 0 ≤ x) (hx1 : x < P) (h : ¬ PN ∣ n) (e : x * (n : Int) % P = 1) : x = ivq (n : Int) := by
  have h1 : x * (ivq (n : Int) * (n : Int)) % P = x := by
    rw [← m_mul_r, ivq_mul n h, Int.mul_one, Int.emod_eq_of_lt hx0 hx1]
  have h2 : x * (ivq (n : Int) * (n : Int)) % P = ivq (n : Int) := by
    rw [show x * (ivq (n : Int) * (n : Int)) = x * (n : Int) * ivq (n : Int) by rw [Int.mul_comm (ivq (n : Int)), Int.mul_assoc], ← m_mul_l, e, Int.one_mul, Int.emod_eq_of_lt (ivq_bd _).1 (ivq_bd _).2]
  rw [← h1, h2]
theorem cast_mod (n : Nat) : ((n % PN : Nat) : Int) = (n : Int) % P := by rw [Int.natCast_emod, PN_eq]
theorem rs_cast {f : Nat → Nat} {i : Nat} (h : ¬ f i % PN = 0) : (rsN f i : Int) * ((f i : Nat) : Int) % P = (rsN f (i + 1) : Int) := by
  rw [rsN_step h, cast_mod, Int.natCast_mul, cast_mod, m_mul_r]
theorem zero_iff (n : Nat) : (decide ((n : Int) % P = 0)) = decide (n % PN = 0) := by
  rw [← cast_mod]
  congr 1
  rw [eq_iff_iff]
  constructor
  · intro h; omega
  · intro h; rw [h]; rfl
/-- One step back: what is answered at place i, and what goes on. -/
theorem back_out {f : Nat → Nat} {i : Nat} {R : Int} (h : ¬ f i % PN = 0) (hR : R * (rsN f (i + 1) : Int) % P = 1) : (rsN f i : Int) % P * R % P = ivq ((f i : Nat) : Int) := by
  refine ivq_one (Int.emod_nonneg _ (by unfold P; decide)) (Int.emod_lt_of_pos _ (by unfold P; decide)) (fun hd => h (Nat.mod_eq_zero_of_dvd hd)) ?_
  have e1 : (rsN f i : Int) % P * R % P * ((f i : Nat) : Int) % P = R * ((rsN f i : Int) * ((f i : Nat) : Int)) % P := by
    rw [m_mul_l, Int.mul_assoc, m_mul_l, Int.mul_left_comm]
  rw [e1, ← m_mul_r, rs_cast h, hR]
theorem back_rest {f : Nat → Nat} {i : Nat} {R : Int} (h : ¬ f i % PN = 0) (hR : R * (rsN f (i + 1) : Int) % P = 1) : R * (((f i : Nat) : Int) % P) % P * (rsN f i : Int) % P = 1 := by
  rw [m_mul_l, Int.mul_assoc, ← m_mul_r, m_mul_l, Int.mul_comm ((f i : Nat) : Int), rs_cast h, hR]
theorem first_R (f : Nat → Nat) (N : Nat) : ivq (rsN f N : Int) * (rsN f N : Int) % P = 1 := ivq_mul _ (rsN_ne f N)
theorem rs_pw (f : Nat → Nat) (i : Nat) : pw (rsN f i : Int) 1 = (rsN f i : Int) := by
  rw [pw_one]
  have h := rsN_lt f i
  have h2 : (rsN f i : Int) < (PN : Int) := by exact_mod_cast h
  rw [PN_eq] at h2
  exact Int.emod_eq_of_lt (by omega) h2
theorem rs_mod (f : Nat → Nat) (i : Nat) : (rsN f i : Int) % P = (rsN f i : Int) := by have := rs_pw f i; rw [pw_one] at this; exact this
theorem rs_256 (f : Nat → Nat) (i : Nat) : (rsN f i : Int) < 115792089237316195423570985008687907853269984665640564039457584007913129639936 := by
  have h := rsN_lt f i
  unfold PN at h
  omega
/-- Rows: running products ahead of i, inverses from i on. -/
def bkR (f : Nat → Nat) (i : Nat) : Nat → List Value := fun j => if j < i then feL (rsN f j : Int) else feL (ivq ((f j : Nat) : Int))
theorem bkR_step (f : Nat → Nat) (i : Nat) : upR (bkR f (i + 1)) i (feL (ivq ((f i : Nat) : Int))) = bkR f i := by
  funext j; unfold upR bkR
  by_cases h : j = i
  · subst h; rw [if_pos rfl, if_neg (by omega)]
  · rw [if_neg h]
    by_cases h2 : j < i
    · rw [if_pos h2, if_pos (by omega)]
    · rw [if_neg h2, if_neg (by omega)]
theorem bkR_ok (f : Nat → Nat) (i m : Nat) : Rok 32 m (bkR f i) := fun j _ => by
  unfold bkR
  split <;> exact feL_ok _
theorem bkR_at (f : Nat → Nat) (i : Nat) : bkR f (i + 1) i = feL (rsN f i : Int) := if_pos (by omega)
end
section
open Go.RowKit N

set_option maxHeartbeats 8000000 in
set_option maxRecDepth 100000 in
theorem InvertAll_f (v : Value) (N : Nat) (f : Nat → Nat) (hN : N ≤ 4398046511104) (w : World) (hL : Ls w v N f) :
    Calls Try.prog 48 #[v] w fun e w' => ∃ o, e = .returned (.slice (some ⟨o, 0, none⟩) N N) ∧ Blk w' o (rL 32 N (bkR f 0)).toArray 24 ∧ Chg w w' [] := by
  obtain ⟨p, cp, rfl, hp⟩ := hL.form
  have hb := hL.1
  have HN : Hid (N ≤ 4398046511104) := hN
  have HP : Hid (∀ (i : Nat), i < N → ∃ g o, p = some ⟨g, o, none⟩ ∧ g < w.heap.size ∧ Fc w g (o + i * 32) ((f i : Nat) : Int)) := hp
  have HB : Hid (∀ i, i < N → f i < 115792089237316195423570985008687907853269984665640564039457584007913129639936) := hb
  have hmk := make_si N hN
  have O0 : Blk ((((w.alloc (.cells (rL 32 N fun _ => z32.toList).toArray 24)).alloc (.cells #[.int .u64 0, .int .u64 0, .int .u64 0, .int .u64 0, .int .u64 0] 77)).alloc (.cells #[.int .u64 0, .int .u64 0, .int .u64 0, .int .u64 0, .int .u64 0] 77)).alloc (.cells #[.int .u64 1, .int .u64 0, .int .u64 0, .int .u64 0, .int .u64 0] 77)) w.heap.size (rL 32 N fun _ => z32.toList).toArray 24 := (((Blk.new w _ _).alloc _).alloc _).alloc _
  have X0 : An ((((w.alloc (.cells (rL 32 N fun _ => z32.toList).toArray 24)).alloc (.cells #[.int .u64 0, .int .u64 0, .int .u64 0, .int .u64 0, .int .u64 0] 77)).alloc (.cells #[.int .u64 0, .int .u64 0, .int .u64 0, .int .u64 0, .int .u64 0] 77)).alloc (.cells #[.int .u64 1, .int .u64 0, .int .u64 0, .int .u64 0, .int .u64 0] 77)) (w.heap.size + 1) := by have q := ((An.new (w.alloc (.cells (rL 32 N fun _ => z32.toList).toArray 24))).alloc (.cells #[.int .u64 0, .int .u64 0, .int .u64 0, .int .u64 0, .int .u64 0] 77)).alloc (.cells #[.int .u64 1, .int .u64 0, .int .u64 0, .int .u64 0, .int .u64 0] 77); simpa using q
  have A0 : An ((((w.alloc (.cells (rL 32 N fun _ => z32.toList).toArray 24)).alloc (.cells #[.int .u64 0, .int .u64 0, .int .u64 0, .int .u64 0, .int .u64 0] 77)).alloc (.cells #[.int .u64 0, .int .u64 0, .int .u64 0, .int .u64 0, .int .u64 0] 77)).alloc (.cells #[.int .u64 1, .int .u64 0, .int .u64 0, .int .u64 0, .int .u64 0] 77)) (w.heap.size + 1 + 1) := by have q := (An.new ((w.alloc (.cells (rL 32 N fun _ => z32.toList).toArray 24)).alloc (.cells #[.int .u64 0, .int .u64 0, .int .u64 0, .int .u64 0, .int .u64 0] 77))).alloc (.cells #[.int .u64 1, .int .u64 0, .int .u64 0, .int .u64 0, .int .u64 0] 77); simpa using q
  have R0 : Nm ((((w.alloc (.cells (rL 32 N fun _ => z32.toList).toArray 24)).alloc (.cells #[.int .u64 0, .int .u64 0, .int .u64 0, .int .u64 0, .int .u64 0] 77)).alloc (.cells #[.int .u64 0, .int .u64 0, .int .u64 0, .int .u64 0, .int .u64 0] 77)).alloc (.cells #[.int .u64 1, .int .u64 0, .int .u64 0, .int .u64 0, .int .u64 0] 77)) (w.heap.size + 1 + 1 + 1) 1 := by
    have q : Nm ((((w.alloc (.cells (rL 32 N fun _ => z32.toList).toArray 24)).alloc (.cells #[.int .u64 0, .int .u64 0, .int .u64 0, .int .u64 0, .int .u64 0] 77)).alloc (.cells #[.int .u64 0, .int .u64 0, .int .u64 0, .int .u64 0, .int .u64 0] 77)).alloc (.cells #[.int .u64 1, .int .u64 0, .int .u64 0, .int .u64 0, .int .u64 0] 77)) ((((w.alloc (.cells (rL 32 N fun _ => z32.toList).toArray 24)).alloc (.cells #[.int .u64 0, .int .u64 0, .int .u64 0, .int .u64 0, .int .u64 0] 77)).alloc (.cells #[.int .u64 0, .int .u64 0, .int .u64 0, .int .u64 0, .int .u64 0] 77))).heap.size 1 := ⟨1, 0, 0, 0, 0, Blk.new (((w.alloc (.cells (rL 32 N fun _ => z32.toList).toArray 24)).alloc (.cells #[.int .u64 0, .int .u64 0, .int .u64 0, .int .u64 0, .int .u64 0] 77)).alloc (.cells #[.int .u64 0, .int .u64 0, .int .u64 0, .int .u64 0, .int .u64 0] 77)) _ _, ⟨⟨by decide, by decide⟩, ⟨by decide, by decide⟩, ⟨by decide, by decide⟩, ⟨by decide, by decide⟩, ⟨by decide, by decide⟩⟩, by decide⟩
    simpa using q
  have C0 : Chg w ((((w.alloc (.cells (rL 32 N fun _ => z32.toList).toArray 24)).alloc (.cells #[.int .u64 0, .int .u64 0, .int .u64 0, .int .u64 0, .int .u64 0] 77)).alloc (.cells #[.int .u64 0, .int .u64 0, .int .u64 0, .int .u64 0, .int .u64 0] 77)).alloc (.cells #[.int .u64 1, .int .u64 0, .int .u64 0, .int .u64 0, .int .u64 0] 77)) [] := ((((Chg.refl w []).alloc _).alloc _).alloc _).alloc _
  clear hp hb hL
  go_enter Try.func48, Try.ntmps48
  go_wp2_with fail
  clear hmk
  generalize ((((w.alloc (.cells (rL 32 N fun _ => z32.toList).toArray 24)).alloc (.cells #[.int .u64 0, .int .u64 0, .int .u64 0, .int .u64 0, .int .u64 0] 77)).alloc (.cells #[.int .u64 0, .int .u64 0, .int .u64 0, .int .u64 0, .int .u64 0] 77)).alloc (.cells #[.int .u64 1, .int .u64 0, .int .u64 0, .int .u64 0, .int .u64 0] 77)) = v0 at *
  obtain ⟨ob, hob⟩ : ∃ b, w.heap.size = b := ⟨_, rfl⟩
  have HOB : Hid (w.heap.size = ob) := hob
  rw [hob] at O0 X0 A0 R0
  rw [hob]
  obtain ⟨xb, hxb⟩ : ∃ b, ob + 1 = b := ⟨_, rfl⟩
  obtain ⟨ab, hab⟩ : ∃ b, ob + 1 + 1 = b := ⟨_, rfl⟩
  obtain ⟨rb, hrb⟩ : ∃ b, ob + 1 + 1 + 1 = b := ⟨_, rfl⟩
  rw [hrb] at R0
  rw [hab] at A0
  rw [hxb] at X0
  rw [hrb, hab, hxb]
  have Dxo : ¬ xb = ob := by omega
  have Dao : ¬ ab = ob := by omega
  have Dro : ¬ rb = ob := by omega
  have Dxa : ¬ xb = ab := by omega
  have Dxr : ¬ xb = rb := by omega
  have Dar : ¬ ab = rb := by omega
  have HBx : Hid (w.heap.size ≤ xb) := by show w.heap.size ≤ xb; omega
  have HBa : Hid (w.heap.size ≤ ab) := by show w.heap.size ≤ ab; omega
  have HBr : Hid (w.heap.size ≤ rb) := by show w.heap.size ≤ rb; omega
  have HBo : Hid (w.heap.size ≤ ob) := by show w.heap.size ≤ ob; omega
  have HD : Hid ((¬ xb = ob ∧ ¬ ab = ob ∧ ¬ rb = ob) ∧ (¬ xb = ab ∧ ¬ xb = rb ∧ ¬ ab = rb)) := ⟨⟨Dxo, Dao, Dro⟩, Dxa, Dxr, Dar⟩
  have HG : Hid (∀ g, g < w.heap.size → ¬ g = xb ∧ ¬ g = ab) := fun g hg => by omega
  clear hob hxb hab hrb Dxo Dao Dro Dxa Dxr Dar hN
  have O1 : Blk v0 ob (rL 32 N (gvR1 (fun j => feL (rsN f j : Int)) z32.toList 0)).toArray 24 := O0.to (congrArg List.toArray (rL_congr fun j _ => (if_neg (by omega)).symm))
  have R1 : Nm v0 rb (rsN f 0 : Int) := R0
  clear O0 R0
  go_loopw [15] (fun t wr => ∃ i : Nat, i ≤ N ∧ t = .int .i64 (i : Int) ∧ Blk wr ob (rL 32 N (gvR1 (fun j => feL (rsN f j : Int)) z32.toList i)).toArray 24 ∧ An wr xb ∧ An wr ab ∧ Nm wr rb (rsN f i : Int) ∧ Chg w wr []) (fun t _ => (N - intOf t).toNat)
  case atStart => exact ⟨0, Nat.zero_le _, rfl, O1, X0, A0, R1, C0⟩
  case round =>
    clear O1 X0 A0 R1 C0
    obtain ⟨i, hi, rfl, O, X, A, Rr, C⟩ := hrel
    by_cases h : i < N
    · have hI : (i : Int) < (N : Int) := by omega
      have hI0 : (0 : Int) ≤ (i : Int) := by omega
      have e1 : IntKind.i64.wrap ((i : Int) + 1) = (i : Int) + 1 := by have := HN.out; rw [IntKind.wrap_i64]; omega
      have HM : Hid _ := mN N i h
      have HI : Hid (i < N) := h
      obtain ⟨g, o, rfl, hg, hF⟩ := HP.out i h
      have HFc : Hid (Fc w g (o + i * 32) ((f i : Nat) : Int)) := hF
      have HGX : Hid (¬ g = xb) := (HG.out g hg).1
      have HFl : Hid (((f i : Nat) : Int) < 115792089237316195423570985008687907853269984665640564039457584007913129639936) := by have := HB.out i h; show ((f i : Nat) : Int) < _; omega
      have HO : Hid (Rok 32 N (gvR1 (fun j => feL (rsN f j : Int)) z32.toList i)) := gvR1_ok (fun j => feL_ok _) z32_ok i
      obtain ⟨S, hS⟩ : ∃ S : Int, (rsN f i : Int) = S := ⟨_, rfl⟩
      have HS : Hid ((rsN f i : Int) = S) := hS
      have HF : Hid (upR (gvR1 (fun j => feL (rsN f j : Int)) z32.toList i) i (feL S) = gvR1 (fun j => feL (rsN f j : Int)) z32.toList (i + 1)) := by rw [← hS]; exact gvR1_step _ _ _
      rw [hS] at Rr
      clear hi h hg hF HP HB hS
      generalize gvR1 (fun j => feL (rsN f j : Int)) z32.toList i = Q0 at *
      go_wp2_with fail
      refine (bytes_nm rb S _ Rr).mono ?_
      rintro e w1 ⟨rfl, Rr, k⟩
      replace O := O.chg k (by have := HD.out.1.2.2; simp; omega)
      replace X := X.chg k (by have := HD.out.2.2.1; simp; omega)
      replace A := A.chg k (by have := HD.out.2.2.2; simp; omega)
      replace C := C.new k HBr.out
      clear k
      go_wp2_with (with_reducible refine wpList_store_rw ?_ 24 (.tmp 21) (.tmp 20) ?_ ob 32 N i Q0 (feL S) 24 ?_ ?_ O HO.out HI.out (feL_ok S).1 (feL_ok S).2 feInfo ?_
                   · rfl
                   · rfl
                   · rfl
                   · rfl
                   intro w2 b2 k2
                   rw [HF.out] at b2)
      replace X := X.chg k2 (by have := HD.out.1.1; simp; omega)
      replace A := A.chg k2 (by have := HD.out.1.2.1; simp; omega)
      replace Rr := Rr.chg k2 (by have := HD.out.1.2.2; simp; omega)
      replace C := C.new k2 HBo.out
      clear k2 O HO
      refine (load_at xb g (o + i * 32) ((f i : Nat) : Int) w2 (by omega) HFl.out X (HFc.out.chg C (by simp))).mono ?_
      rintro e w3 ⟨rfl, Xn, k⟩
      replace b2 := b2.chg k (by have := HD.out.1.1; simp; omega)
      replace A := A.chg k (by have := HD.out.2.1; simp; omega)
      replace Rr := Rr.chg k (by have := HD.out.2.2.1; simp; omega)
      replace C := C.new k HBx.out
      clear k X
      go_wp2_with fail
      refine (isZero_nm xb _ w3 Xn).mono ?_
      rintro e w4 ⟨rfl, k⟩
      rw [zero_iff]
      replace b2 := b2.chg k (by simp)
      replace A := A.chg k (by simp)
      replace Rr := Rr.chg k (by simp)
      replace Xn := Xn.chg k (by simp)
      replace C := C.trans1 k
      clear k
      by_cases hz : f i % PN = 0
      · have hS1 : (rsN f (i + 1) : Int) = S := by rw [rsN_zero hz]; exact HS.out
        rw [decide_eq_true hz]
        rw [← hS1] at Rr
        clear hz hS1 HS HF
        go_wp2_with fail
        exact ⟨⟨i + 1, HI.out, by go_num, b2, Xn.an, A, Rr, C⟩, HM.out⟩
      · rw [decide_eq_false hz]
        have HS1 : Hid (S * (((f i : Nat) : Int) % P) % P = (rsN f (i + 1) : Int)) := by show S * (((f i : Nat) : Int) % P) % P = (rsN f (i + 1) : Int); rw [m_mul_r, ← HS.out]; exact rs_cast hz
        clear hz HS HF
        go_wp2_with fail
        refine (mul_nm rb rb xb S _ w4 Rr.an Rr Xn).mono ?_
        rintro e w5 ⟨rfl, Rn, k⟩
        rw [HS1.out] at Rn
        replace b2 := b2.chg k (by have := HD.out.1.2.2; simp; omega)
        replace A := A.chg k (by have := HD.out.2.2.2; simp; omega)
        replace Xn := Xn.chg k (by have := HD.out.2.2.1; simp; omega)
        replace C := C.new k HBr.out
        clear k Rr HS1
        go_wp2_with fail
        exact ⟨⟨i + 1, HI.out, by go_num, b2, Xn.an, A, Rn, C⟩, HM.out⟩
    · obtain rfl : i = N := by omega
      have hI : ¬ (i : Int) < (i : Int) := by omega
      have e0 : IntKind.i64.wrap ((i : Int) - 1) = (i : Int) - 1 := by have := HN.out; rw [IntKind.wrap_i64]; omega
      have O2 : Blk wr ob (rL 32 i (bkR f i)).toArray 24 := O.to (congrArg List.toArray (rL_congr fun j hj => by unfold gvR1 bkR; rw [if_pos hj, if_pos hj]))
      have Rp : Nm wr rb (pw (rsN f i : Int) 1) := by rw [rs_pw]; exact Rr
      clear O h hi Rr
      go_wp2_with fail
      refine (invert_nm rb rb (rsN f i : Int) wr Rp.an Rp).mono ?_
      rintro e w1 ⟨rfl, Rn, k⟩
      have hR := first_R f i
      obtain ⟨R, hRe⟩ : ∃ R, ivq (rsN f i : Int) = R := ⟨_, rfl⟩
      have Rm : Nm w1 rb R := by rw [← hRe]; exact Rn
      rw [hRe] at hR
      replace O2 := O2.chg k (by have := HD.out.1.2.2; simp; omega)
      replace X := X.chg k (by have := HD.out.2.2.1; simp; omega)
      replace A := A.chg k (by have := HD.out.2.2.2; simp; omega)
      replace C := C.new k HBr.out
      have HR : Hid (R * (rsN f i : Int) % P = 1) := hR
      clear k Rn Rp hRe hR
      go_wp2_with fail
      go_loopw [8] (fun t wr => ∃ k : Nat, k ≤ i ∧ t = .int .i64 ((k : Int) - 1) ∧ Blk wr ob (rL 32 i (bkR f k)).toArray 24 ∧ An wr xb ∧ An wr ab ∧ (∃ R, Nm wr rb R ∧ R * (rsN f k : Int) % P = 1) ∧ Chg w wr []) (fun t _ => (intOf t + 1).toNat)
      case atStart => exact ⟨i, Nat.le_refl _, rfl, O2, X, A, ⟨R, Rm, HR.out⟩, C⟩
      case round =>
        clear O2 X A Rm HR C hI e0 R
        obtain ⟨k, hk, rfl, O, X, A, ⟨R, Rr, hR⟩, C⟩ := hrel
        rcases k with _ | k
        · have hI : ¬ (0 : Int) ≤ ((0 : Nat) : Int) - 1 := by omega
          have hI2 : ((0 : Nat) : Int) - 1 < 0 := by omega
          clear hR
          go_wp2_with fail
          go_ret
          exact ⟨ob, rfl, O, C⟩
        · rw [show ((k + 1 : Nat) : Int) - 1 = (k : Int) by omega]
          have hI : (0 : Int) ≤ (k : Int) := by omega
          have hI2 : (k : Int) < (i : Int) := by omega
          have e1 : IntKind.i64.wrap ((k : Int) - 1) = (k : Int) - 1 := by have := HN.out; rw [IntKind.wrap_i64]; omega
          have HK : Hid (k < i) := hk
          have HKi : Hid (k ≤ i) := by show k ≤ i; omega
          have HM : Hid ((intOf (.int .i64 ((k : Int) - 1)) + 1).toNat < (intOf (.int .i64 (k : Int)) + 1).toNat) := by show (intOf (.int .i64 ((k : Int) - 1)) + 1).toNat < (intOf (.int .i64 (k : Int)) + 1).toNat; simp [intOf] <;> omega
          obtain ⟨g, o, rfl, hg, hF⟩ := HP.out k hk
          have HFc : Hid (Fc w g (o + k * 32) ((f k : Nat) : Int)) := hF
          have HGX : Hid (¬ g = xb) := (HG.out g hg).1
          have HFl : Hid (((f k : Nat) : Int) < 115792089237316195423570985008687907853269984665640564039457584007913129639936) := by have := HB.out k hk; show ((f k : Nat) : Int) < _; omega
          have HO : Hid (Rok 32 i (bkR f (k + 1))) := bkR_ok f (k + 1) i
          have HRR : Hid (R * (rsN f (k + 1) : Int) % P = 1) := hR
          have HBS : Hid (upR (bkR f (k + 1)) k (feL (ivq ((f k : Nat) : Int))) = bkR f k) := bkR_step f k
          have HFC : Hid (∀ W, Blk W ob (rL 32 i (bkR f (k + 1))).toArray 24 → Fc W ob (k * 32) (rsN f k : Int)) := fun W hW => Fc.ofRange (by have q := hW.rangeRw HO.out HK.out; rw [bkR_at] at q; exact q) hW.lt
          clear hR hk hF hg
          go_wp2_with fail
          refine (load_at xb g (o + k * 32) ((f k : Nat) : Int) wr (by omega) HFl.out X (HFc.out.chg C (by simp))).mono ?_
          rintro e w3 ⟨rfl, Xn, q⟩
          replace O := O.chg q (by have := HD.out.1.1; simp; omega)
          replace A := A.chg q (by have := HD.out.2.1; simp; omega)
          replace Rr := Rr.chg q (by have := HD.out.2.2.1; simp; omega)
          replace C := C.new q HBx.out
          clear q X
          go_wp2_with fail
          refine (isZero_nm xb _ w3 Xn).mono ?_
          rintro e w4 ⟨rfl, q⟩
          rw [zero_iff]
          replace O := O.chg q (by simp)
          replace A := A.chg q (by simp)
          replace Rr := Rr.chg q (by simp)
          replace Xn := Xn.chg q (by simp)
          replace C := C.trans1 q
          clear q
          by_cases hz : f k % PN = 0
          · rw [decide_eq_true hz]
            have HZ : Hid (upR (bkR f (k + 1)) k (feL 0) = bkR f k) := by show upR (bkR f (k + 1)) k (feL 0) = bkR f k; rw [← HBS.out, ivq_zero _ (Nat.dvd_of_mod_eq_zero hz)]
            have HR1 : Hid (R * (rsN f k : Int) % P = 1) := by show R * (rsN f k : Int) % P = 1; rw [← rsN_zero hz]; exact HRR.out
            clear hz HBS HRR HFC
            generalize bkR f (k + 1) = Q0 at *
            go_wp2_with (first
              | (refine gl_build (by rfl) 24 #[] rfl (feC 0) (by kernel_rfl) ?_)
              | (with_reducible refine wpList_store_rw ?_ 24 (.tmp 46) (.tmp 45) ?_ ob 32 i k Q0 (feL 0) 24 ?_ ?_ O HO.out HK.out (feL_ok 0).1 (feL_ok 0).2 feInfo ?_
                 · rfl
                 · rfl
                 · rfl
                 · rfl
                 intro w2 b2 k2
                 rw [HZ.out] at b2))
            replace Xn := Xn.chg k2 (by have := HD.out.1.1; simp; omega)
            replace A := A.chg k2 (by have := HD.out.1.2.1; simp; omega)
            replace Rr := Rr.chg k2 (by have := HD.out.1.2.2; simp; omega)
            replace C := C.new k2 HBo.out
            exact ⟨⟨k, HKi.out, by go_num, b2, Xn.an, A, ⟨R, Rr, HR1.out⟩, C⟩, HM.out⟩
          · rw [decide_eq_false hz]
            have HOut : Hid ((rsN f k : Int) % P * R % P = ivq ((f k : Nat) : Int)) := back_out hz HRR.out
            have HRest : Hid (R * (((f k : Nat) : Int) % P) % P * (rsN f k : Int) % P = 1) := back_rest hz HRR.out
            have HRs : Hid ((rsN f k : Int) < 115792089237316195423570985008687907853269984665640564039457584007913129639936) := rs_256 f k
            clear hz HRR
            go_wp2_with fail
            refine (load_at ab ob (k * 32) (rsN f k : Int) w4 (by omega) HRs.out A (HFC.out _ O)).mono ?_
            rintro e w5 ⟨rfl, An1, q⟩
            replace O := O.chg q (by have := HD.out.1.2.1; simp; omega)
            replace Rr := Rr.chg q (by have := HD.out.2.2.2; simp; omega)
            replace Xn := Xn.chg q (by have := HD.out.2.1; simp; omega)
            replace C := C.new q HBa.out
            clear q A
            go_wp2_with fail
            refine (mul_nm ab ab rb _ R w5 An1.an An1 Rr).mono ?_
            rintro e w6 ⟨rfl, An2, q⟩
            rw [HOut.out] at An2
            replace O := O.chg q (by have := HD.out.1.2.1; simp; omega)
            replace Rr := Rr.chg q (by have := HD.out.2.2.2; simp; omega)
            replace Xn := Xn.chg q (by have := HD.out.2.1; simp; omega)
            replace C := C.new q HBa.out
            clear q An1 HFC HOut
            obtain ⟨I, hIe⟩ : ∃ I, ivq ((f k : Nat) : Int) = I := ⟨_, rfl⟩
            rw [hIe] at An2 HBS
            clear hIe
            generalize bkR f (k + 1) = Q0 at *
            go_wp2_with fail
            refine (bytes_nm ab I _ An2).mono ?_
            rintro e w7 ⟨rfl, An3, q⟩
            replace O := O.chg q (by have := HD.out.1.2.1; simp; omega)
            replace Rr := Rr.chg q (by have := HD.out.2.2.2; simp; omega)
            replace Xn := Xn.chg q (by have := HD.out.2.1; simp; omega)
            replace C := C.new q HBa.out
            clear q An2
            go_wp2_with (with_reducible refine wpList_store_rw ?_ 24 (.tmp 55) (.tmp 54) ?_ ob 32 i k Q0 (feL I) 24 ?_ ?_ O HO.out HK.out (feL_ok I).1 (feL_ok I).2 feInfo ?_
                         · rfl
                         · rfl
                         · rfl
                         · rfl
                         intro w2 b2 k2
                         rw [HBS.out] at b2)
            replace Xn := Xn.chg k2 (by have := HD.out.1.1; simp; omega)
            replace An3 := An3.chg k2 (by have := HD.out.1.2.1; simp; omega)
            replace Rr := Rr.chg k2 (by have := HD.out.1.2.2; simp; omega)
            replace C := C.new k2 HBo.out
            clear k2 O HO
            refine (mul_nm rb rb xb R _ w2 Rr.an Rr Xn).mono ?_
            rintro e w8 ⟨rfl, Rn, q⟩
            replace b2 := b2.chg q (by have := HD.out.1.2.2; simp; omega)
            replace An3 := An3.chg q (by have := HD.out.2.2.2; simp; omega)
            replace Xn := Xn.chg q (by have := HD.out.2.2.1; simp; omega)
            replace C := C.new q HBr.out
            clear q Rr
            go_wp2_with fail
            exact ⟨⟨k, HKi.out, by go_num, b2, Xn.an, An3.an, ⟨_, Rn, HRest.out⟩, C⟩, HM.out⟩
end
section
open Go.RowKit N

theorem catR_one (f : Nat → Nat) (i : Nat) : ∀ j, j < i + 1 → catR (fun j => feL (ivq ((f j : Nat) : Int))) i (fun _ => feL (ivq ((f i : Nat) : Int))) j = feL (ivq ((f j : Nat) : Int)) := fun j hj => by
  unfold catR
  by_cases h : j < i
  · rw [if_pos h]
  · rw [if_neg h, show j = i by omega]
theorem OwnR.cong {w : World} {base : Nat} {T : TypeId} {s : Nat} {v : Value} {n : Nat} {F G : Nat → List Value} (h : OwnR w base T s v n F) (e : ∀ j, j < n → F j = G j) : OwnR w base T s v n G := by
  refine ⟨?_, fun i hi => by rw [← e i hi]; exact h.2 i hi⟩
  rw [← rL_congr e]
  exact h.1
theorem ownR_ge {w : World} {base : Nat} {T : TypeId} {s : Nat} {v : Value} {n : Nat} {F : Nat → List Value} (h : OwnR w base T s v n F) : ∀ k ∈ ob v, base ≤ k ∧ k < w.heap.size := fun k hk =>
  h.1.lt k (by unfold ob at hk; cases hq : v.ownBlock with
    | none => rw [hq] at hk; simp at hk
    | some x => rw [hq] at hk; simp at hk; rw [hk])
theorem fill_fe (X : Int) : Instr.fill (fun i => some (i * 32, 32)) ((Array.range (1 * 32)).map ((Value.agg z32).cells[· % (Value.agg z32).cells.size]!)) [(0, fe X)] = some (feC X) := by kernel_rfl
/-- A slice of one number made. -/
theorem build_fe {w : World} {ops : Array Oper} {rest : List Oper} {op : Oper} {a : Act} {Q : Exit → Act → World → Prop} (hg : op.guard = none) (x : Operand) (ho : op.op = .buildSlice 63 1 #[(0, x)]) (X : Int) (hx : a.eval x = fe X)
    (h : wpList Try.prog ops Q rest (a.put op.dst (.slice (some ⟨w.heap.size, 0, none⟩) 1 1)) (w.alloc (.cells (feC X) 24))) : wpList Try.prog ops Q (op :: rest) a w := by
  obtain ⟨inf, hinf, hz, hs1, hs2⟩ := scRow
  refine wpList_buildSlice hg 63 24 1 #[(0, x)] ho (feC X) inf (.agg z32) Try.underlying63 hinf hz (by rw [hs1]; decide) (by rw [hs1]; decide) ?_ h
  rw [hs1]
  simp only [List.map_toArray, List.map_cons, List.map_nil, hx]
  exact fill_fe X
theorem rl_one {w : World} {b : Nat} {X : Int} {T : TypeId} (h : Blk w b (feC X) T) : Rl w 32 (.slice (some ⟨b, 0, none⟩) 1 1) 1 (fun _ => feL X) := by
  refine ⟨fun _ _ => feL_ok X, Or.inr ⟨b, 0, 1, rfl, Nat.le_refl _, by decide, h.lt, fun j hj => ?_⟩⟩
  obtain rfl : j = 0 := by omega
  intro q u hu
  rw [h.cell]
  simpa using hu
set_option maxHeartbeats 8000000 in
set_option maxRecDepth 100000 in
theorem InvertAll_r (v : Value) (N : Nat) (f : Nat → Nat) (hN : N ≤ 4398046511000) (w : World) (hL : Ls w v N f) :
    Calls Try.prog 50 #[v] w fun e w' => ∃ r, e = .returned r ∧ OwnR w' w.heap.size 24 32 r N (fun j => feL (ivq ((f j : Nat) : Int))) ∧ Chg w w' [] := by
  obtain ⟨p, cp, rfl, hp⟩ := hL.form
  have HN : Hid (N ≤ 4398046511000) := hN
  have HP : Hid (∀ (i : Nat), i < N → ∃ g o, p = some ⟨g, o, none⟩ ∧ g < w.heap.size ∧ Fc w g (o + i * 32) ((f i : Nat) : Int)) := hp
  have HB : Hid (∀ i, i < N → f i < 115792089237316195423570985008687907853269984665640564039457584007913129639936) := hL.1
  obtain ⟨inf, hinf, hz, hs1, hs2⟩ := scRow
  clear hp hL hN
  go_enter Try.func50, Try.ntmps50
  go_wp2_with fail
  go_loopw [4, 3] (fun t ta wr => ∃ i : Nat, i ≤ N ∧ t = .int .i64 (i : Int) ∧ OwnR wr w.heap.size 24 32 ta i (fun j => feL (ivq ((f j : Nat) : Int))) ∧ Chg w wr []) (fun t _ _ => (N - intOf t).toNat)
  case atStart => exact ⟨0, Nat.zero_le _, rfl, OwnR.nil _ _ _ _ _, Chg.refl _ _⟩
  case round =>
    obtain ⟨i, hi, rfl, OA, C⟩ := hrel
    by_cases h : i < N
    · have hI : (i : Int) < (N : Int) := by omega
      have hI0 : (0 : Int) ≤ (i : Int) := by omega
      have e1 : IntKind.i64.wrap ((i : Int) + 1) = (i : Int) + 1 := by have := HN.out; rw [IntKind.wrap_i64]; omega
      have HM : Hid _ := mN N i h
      have HI : Hid (i < N) := h
      obtain ⟨g, o, rfl, hg, hF⟩ := HP.out i h
      have HR : Hid (wr.rangeAt g (o + i * 32) (feL ((f i : Nat) : Int))) := (hF.chg C (by simp)).range'
      have ra : Hid (R256 ((f i : Nat) : Int)) := by have := HB.out i h; exact ⟨by omega, by omega⟩
      clear hi h hg hF HP HB
      go_wp2_with (with_reducible refine load_fe ?_ (.tmp 14) ?_ g (o + i * 32) ((f i : Nat) : Int) ?_ ?_ ?_
                   · rfl
                   · rfl
                   · rfl
                   · exact HR.out)
      refine (Invert_r _ ra.out _).mono ?_
      rintro e w1 ⟨rfl, k⟩
      replace OA := OA.chg k (by simp)
      replace C := C.trans1 k
      clear k HR
      obtain ⟨X, hX⟩ : ∃ X, ivq ((f i : Nat) : Int) = X := ⟨_, rfl⟩
      have HX : Hid (ivq ((f i : Nat) : Int) = X) := hX
      rw [show pw ((f i : Nat) : Int) 57896044618658097711785492504343953926634992332820282019728792003956564819947 = X from hX]
      have OA1 := OA.chg ((Chg.refl w1 []).alloc (.cells (feC X) 24)) (by simp)
      have AL := Blk.new w1 (feC X) 24
      have HRl : Hid (Rl (w1.alloc (.cells (feC X) 24)) 32 (.slice (some ⟨w1.heap.size, 0, none⟩) 1 1) 1 (fun _ => feL X)) := rl_one AL
      have HBY : Hid ((i + 1) * 32 ≤ 140737488355328) := by have := HN.out; have := HI.out; show (i + 1) * 32 ≤ 140737488355328; omega
      have H63 : Hid (i + 1 ≤ 9223372036854775807) := by have := HN.out; have := HI.out; show i + 1 ≤ 9223372036854775807; omega
      have HBA : Hid (w.heap.size ≤ (w1.alloc (.cells (feC X) 24)).heap.size) := Nat.le_trans C.size ((Chg.refl w1 []).alloc (.cells (feC X) 24)).size
      have CA : Chg w (w1.alloc (.cells (feC X) 24)) [] := C.alloc _
      have HGE : Hid (∀ k ∈ ob u3, w.heap.size ≤ k) := fun k hk => (ownR_ge OA1 k hk).1
      clear hX OA AL C
      go_wp2_with (first
        | (with_reducible refine build_fe ?_ (.tmp 16) ?_ X ?_ ?_
           · rfl
           · rfl
           · rfl)
        | (with_reducible refine wpList_append_r ?_ (.tmp 11) (.tmp 17) 63 ?_ 24 inf (.agg z32) 32 32 Try.underlying63 hinf hz hs1 hs2 ?_ ?_ w.heap.size u3 (.slice (some ⟨w1.heap.size, 0, none⟩) 1 1) i 1 (fun j => feL (ivq ((f j : Nat) : Int))) (fun _ => feL X) ?_ ?_ OA1 HRl.out ?_ HBY.out H63.out HBA.out ?_
           · rfl
           · rfl
           · rfl
           · decide
           · rfl
           · rfl
           · decide
           intro ng nc w2 O2 k2 _ _))
      have O3 : OwnR w2 w.heap.size 24 32 (.slice (some ⟨ng, 0, none⟩) (i + 1) nc) (i + 1) (fun j => feL (ivq ((f j : Nat) : Int))) := O2.cong (by rw [← HX.out]; exact catR_one f i)
      exact ⟨⟨i + 1, HI.out, by go_num, O3, CA.trans k2 (fun k hk => Or.inr (HGE.out k hk))⟩, HM.out⟩
    · obtain rfl : i = N := by omega
      have hI : ¬ (i : Int) < (i : Int) := by omega
      go_wp2_with fail
      go_ret
      exact ⟨_, rfl, OA, C⟩
end
end Go.Proofs.Ytialljmkkichiaa
