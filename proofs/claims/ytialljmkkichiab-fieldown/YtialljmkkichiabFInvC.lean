/- Layer 1: field.InvertAll: the walk. -/
import Derived.Test.YtialljmkkichiabFInvA
set_option linter.unusedVariables false
set_option linter.unusedSimpArgs false
set_option linter.unnecessarySimpa false
namespace Go.Proofs.Ytialljmkkichiab
open Go.RowKit N

set_option maxHeartbeats 8000000 in
set_option maxRecDepth 100000 in
theorem InvertAll_n (v : Value) (N : Nat) (f : Nat → Nat) (hN : N ≤ 4398046511104) (w : World) (hL : Ls w v N f) :
    Calls Try.prog 33 #[v] w fun e w' => ∃ o, e = .returned (.slice (some ⟨o, 0, none⟩) N N) ∧ w.heap.size ≤ o ∧ Blk w' o (rL 32 N (bkR f 0)).toArray 23 ∧ Chg w w' [] := by
  obtain ⟨p, cp, rfl, hp⟩ := hL.form
  have hb := hL.1
  have HN : Hid (N ≤ 4398046511104) := hN
  have HP : Hid (∀ (i : Nat), i < N → ∃ g o, p = some ⟨g, o, none⟩ ∧ g < w.heap.size ∧ Fc w g (o + i * 32) ((f i : Nat) : Int)) := hp
  have HB : Hid (∀ i, i < N → f i < 115792089237316195423570985008687907853269984665640564039457584007913129639936) := hb
  have hmk := make_si N hN
  have O0 : Blk ((((w.alloc (.cells (rL 32 N fun _ => z32.toList).toArray 23)).alloc (.cells #[.int .u64 0, .int .u64 0, .int .u64 0, .int .u64 0, .int .u64 0] 79)).alloc (.cells #[.int .u64 0, .int .u64 0, .int .u64 0, .int .u64 0, .int .u64 0] 79)).alloc (.cells #[.int .u64 1, .int .u64 0, .int .u64 0, .int .u64 0, .int .u64 0] 79)) w.heap.size (rL 32 N fun _ => z32.toList).toArray 23 := (((Blk.new w _ _).alloc _).alloc _).alloc _
  have X0 : An ((((w.alloc (.cells (rL 32 N fun _ => z32.toList).toArray 23)).alloc (.cells #[.int .u64 0, .int .u64 0, .int .u64 0, .int .u64 0, .int .u64 0] 79)).alloc (.cells #[.int .u64 0, .int .u64 0, .int .u64 0, .int .u64 0, .int .u64 0] 79)).alloc (.cells #[.int .u64 1, .int .u64 0, .int .u64 0, .int .u64 0, .int .u64 0] 79)) (w.heap.size + 1) := by have q := ((An.new (w.alloc (.cells (rL 32 N fun _ => z32.toList).toArray 23))).alloc (.cells #[.int .u64 0, .int .u64 0, .int .u64 0, .int .u64 0, .int .u64 0] 79)).alloc (.cells #[.int .u64 1, .int .u64 0, .int .u64 0, .int .u64 0, .int .u64 0] 79); simpa using q
  have A0 : An ((((w.alloc (.cells (rL 32 N fun _ => z32.toList).toArray 23)).alloc (.cells #[.int .u64 0, .int .u64 0, .int .u64 0, .int .u64 0, .int .u64 0] 79)).alloc (.cells #[.int .u64 0, .int .u64 0, .int .u64 0, .int .u64 0, .int .u64 0] 79)).alloc (.cells #[.int .u64 1, .int .u64 0, .int .u64 0, .int .u64 0, .int .u64 0] 79)) (w.heap.size + 1 + 1) := by have q := (An.new ((w.alloc (.cells (rL 32 N fun _ => z32.toList).toArray 23)).alloc (.cells #[.int .u64 0, .int .u64 0, .int .u64 0, .int .u64 0, .int .u64 0] 79))).alloc (.cells #[.int .u64 1, .int .u64 0, .int .u64 0, .int .u64 0, .int .u64 0] 79); simpa using q
  have R0 : Nm ((((w.alloc (.cells (rL 32 N fun _ => z32.toList).toArray 23)).alloc (.cells #[.int .u64 0, .int .u64 0, .int .u64 0, .int .u64 0, .int .u64 0] 79)).alloc (.cells #[.int .u64 0, .int .u64 0, .int .u64 0, .int .u64 0, .int .u64 0] 79)).alloc (.cells #[.int .u64 1, .int .u64 0, .int .u64 0, .int .u64 0, .int .u64 0] 79)) (w.heap.size + 1 + 1 + 1) 1 := by
    have q : Nm ((((w.alloc (.cells (rL 32 N fun _ => z32.toList).toArray 23)).alloc (.cells #[.int .u64 0, .int .u64 0, .int .u64 0, .int .u64 0, .int .u64 0] 79)).alloc (.cells #[.int .u64 0, .int .u64 0, .int .u64 0, .int .u64 0, .int .u64 0] 79)).alloc (.cells #[.int .u64 1, .int .u64 0, .int .u64 0, .int .u64 0, .int .u64 0] 79)) ((((w.alloc (.cells (rL 32 N fun _ => z32.toList).toArray 23)).alloc (.cells #[.int .u64 0, .int .u64 0, .int .u64 0, .int .u64 0, .int .u64 0] 79)).alloc (.cells #[.int .u64 0, .int .u64 0, .int .u64 0, .int .u64 0, .int .u64 0] 79))).heap.size 1 := ⟨1, 0, 0, 0, 0, Blk.new (((w.alloc (.cells (rL 32 N fun _ => z32.toList).toArray 23)).alloc (.cells #[.int .u64 0, .int .u64 0, .int .u64 0, .int .u64 0, .int .u64 0] 79)).alloc (.cells #[.int .u64 0, .int .u64 0, .int .u64 0, .int .u64 0, .int .u64 0] 79)) _ _, ⟨⟨by decide, by decide⟩, ⟨by decide, by decide⟩, ⟨by decide, by decide⟩, ⟨by decide, by decide⟩, ⟨by decide, by decide⟩⟩, by decide⟩
    simpa using q
  have C0 : Chg w ((((w.alloc (.cells (rL 32 N fun _ => z32.toList).toArray 23)).alloc (.cells #[.int .u64 0, .int .u64 0, .int .u64 0, .int .u64 0, .int .u64 0] 79)).alloc (.cells #[.int .u64 0, .int .u64 0, .int .u64 0, .int .u64 0, .int .u64 0] 79)).alloc (.cells #[.int .u64 1, .int .u64 0, .int .u64 0, .int .u64 0, .int .u64 0] 79)) [] := ((((Chg.refl w []).alloc _).alloc _).alloc _).alloc _
  clear hp hb hL
  go_enter Try.func33, Try.ntmps33
  go_wp2_with fail
  clear hmk
  generalize ((((w.alloc (.cells (rL 32 N fun _ => z32.toList).toArray 23)).alloc (.cells #[.int .u64 0, .int .u64 0, .int .u64 0, .int .u64 0, .int .u64 0] 79)).alloc (.cells #[.int .u64 0, .int .u64 0, .int .u64 0, .int .u64 0, .int .u64 0] 79)).alloc (.cells #[.int .u64 1, .int .u64 0, .int .u64 0, .int .u64 0, .int .u64 0] 79)) = v0 at *
  obtain ⟨ob, hob⟩ : ∃ b, w.heap.size = b := ⟨_, rfl⟩
  have HOB : Hid (w.heap.size = ob) := hob
  rw [hob] at O0 X0 A0 R0
  rw [hob]
  obtain ⟨xb, hxb⟩ : ∃ b, ob + 1 = b := ⟨_, rfl⟩
  obtain ⟨ab, hab⟩ : ∃ b, ob + 1 + 1 = b := ⟨_, rfl⟩
  obtain ⟨rb, hrb⟩ : ∃ b, ob + 1 + 1 + 1 = b := ⟨_, rfl⟩
  rw [hrb] at R0
  rw [hab] at A0
  rw [hxb] at X0
  rw [hrb, hab, hxb]
  have Dxo : ¬ xb = ob := by omega
  have Dao : ¬ ab = ob := by omega
  have Dro : ¬ rb = ob := by omega
  have Dxa : ¬ xb = ab := by omega
  have Dxr : ¬ xb = rb := by omega
  have Dar : ¬ ab = rb := by omega
  have HBx : Hid (w.heap.size ≤ xb) := by show w.heap.size ≤ xb; omega
  have HBa : Hid (w.heap.size ≤ ab) := by show w.heap.size ≤ ab; omega
  have HBr : Hid (w.heap.size ≤ rb) := by show w.heap.size ≤ rb; omega
  have HBo : Hid (w.heap.size ≤ ob) := by show w.heap.size ≤ ob; omega
  have HD : Hid ((¬ xb = ob ∧ ¬ ab = ob ∧ ¬ rb = ob) ∧ (¬ xb = ab ∧ ¬ xb = rb ∧ ¬ ab = rb)) := ⟨⟨Dxo, Dao, Dro⟩, Dxa, Dxr, Dar⟩
  have HG : Hid (∀ g, g < w.heap.size → ¬ g = xb ∧ ¬ g = ab) := fun g hg => by omega
  clear hob hxb hab hrb Dxo Dao Dro Dxa Dxr Dar hN
  have O1 : Blk v0 ob (rL 32 N (gvR1 (fun j => feL (rsN f j : Int)) z32.toList 0)).toArray 23 := O0.to (congrArg List.toArray (rL_congr fun j _ => (if_neg (by omega)).symm))
  have R1 : Nm v0 rb (rsN f 0 : Int) := R0
  clear O0 R0
  go_loopw [15] (fun t wr => ∃ i : Nat, i ≤ N ∧ t = .int .i64 (i : Int) ∧ Blk wr ob (rL 32 N (gvR1 (fun j => feL (rsN f j : Int)) z32.toList i)).toArray 23 ∧ An wr xb ∧ An wr ab ∧ Nm wr rb (rsN f i : Int) ∧ Chg w wr []) (fun t _ => (N - intOf t).toNat)
  case atStart => exact ⟨0, Nat.zero_le _, rfl, O1, X0, A0, R1, C0⟩
  case round =>
    clear O1 X0 A0 R1 C0
    obtain ⟨i, hi, rfl, O, X, A, Rr, C⟩ := hrel
    by_cases h : i < N
    · have hI : (i : Int) < (N : Int) := by omega
      have hI0 : (0 : Int) ≤ (i : Int) := by omega
      have e1 : IntKind.i64.wrap ((i : Int) + 1) = (i : Int) + 1 := by have := HN.out; rw [IntKind.wrap_i64]; omega
      have HM : Hid _ := mN N i h
      have HI : Hid (i < N) := h
      obtain ⟨g, o, rfl, hg, hF⟩ := HP.out i h
      have HFc : Hid (Fc w g (o + i * 32) ((f i : Nat) : Int)) := hF
      have HGX : Hid (¬ g = xb) := (HG.out g hg).1
      have HFl : Hid (((f i : Nat) : Int) < 115792089237316195423570985008687907853269984665640564039457584007913129639936) := by have := HB.out i h; show ((f i : Nat) : Int) < _; omega
      have HO : Hid (Rok 32 N (gvR1 (fun j => feL (rsN f j : Int)) z32.toList i)) := gvR1_ok (fun j => feL_ok _) z32_ok i
      obtain ⟨S, hS⟩ : ∃ S : Int, (rsN f i : Int) = S := ⟨_, rfl⟩
      have HS : Hid ((rsN f i : Int) = S) := hS
      have HF : Hid (upR (gvR1 (fun j => feL (rsN f j : Int)) z32.toList i) i (feL S) = gvR1 (fun j => feL (rsN f j : Int)) z32.toList (i + 1)) := by rw [← hS]; exact gvR1_step _ _ _
      rw [hS] at Rr
      clear hi h hg hF HP HB hS
      generalize gvR1 (fun j => feL (rsN f j : Int)) z32.toList i = Q0 at *
      go_wp2_with fail
      refine (bytes_nm rb S _ Rr).mono ?_
      rintro e w1 ⟨rfl, Rr, k⟩
      replace O := O.chg k (by have := HD.out.1.2.2; simp; omega)
      replace X := X.chg k (by have := HD.out.2.2.1; simp; omega)
      replace A := A.chg k (by have := HD.out.2.2.2; simp; omega)
      replace C := C.new k HBr.out
      clear k
      go_wp2_with (with_reducible refine wpList_store_rw ?_ 23 (.tmp 21) (.tmp 20) ?_ ob 32 N i Q0 (feL S) 23 ?_ ?_ O HO.out HI.out (feL_ok S).1 (feL_ok S).2 feInfo ?_
                   · rfl
                   · rfl
                   · rfl
                   · rfl
                   intro w2 b2 k2
                   rw [HF.out] at b2)
      replace X := X.chg k2 (by have := HD.out.1.1; simp; omega)
      replace A := A.chg k2 (by have := HD.out.1.2.1; simp; omega)
      replace Rr := Rr.chg k2 (by have := HD.out.1.2.2; simp; omega)
      replace C := C.new k2 HBo.out
      clear k2 O HO
      refine (load_at xb g (o + i * 32) ((f i : Nat) : Int) w2 (by omega) HFl.out X (HFc.out.chg C (by simp))).mono ?_
      rintro e w3 ⟨rfl, Xn, k⟩
      replace b2 := b2.chg k (by have := HD.out.1.1; simp; omega)
      replace A := A.chg k (by have := HD.out.2.1; simp; omega)
      replace Rr := Rr.chg k (by have := HD.out.2.2.1; simp; omega)
      replace C := C.new k HBx.out
      clear k X
      go_wp2_with fail
      refine (isZero_nm xb _ w3 Xn).mono ?_
      rintro e w4 ⟨rfl, k⟩
      rw [zero_iff]
      replace b2 := b2.chg k (by simp)
      replace A := A.chg k (by simp)
      replace Rr := Rr.chg k (by simp)
      replace Xn := Xn.chg k (by simp)
      replace C := C.trans1 k
      clear k
      by_cases hz : f i % PN = 0
      · have hS1 : (rsN f (i + 1) : Int) = S := by rw [rsN_zero hz]; exact HS.out
        rw [decide_eq_true hz]
        rw [← hS1] at Rr
        clear hz hS1 HS HF
        go_wp2_with fail
        exact ⟨⟨i + 1, HI.out, by go_num, b2, Xn.an, A, Rr, C⟩, HM.out⟩
      · rw [decide_eq_false hz]
        have HS1 : Hid (S * (((f i : Nat) : Int) % P) % P = (rsN f (i + 1) : Int)) := by show S * (((f i : Nat) : Int) % P) % P = (rsN f (i + 1) : Int); rw [m_mul_r, ← HS.out]; exact rs_cast hz
        clear hz HS HF
        go_wp2_with fail
        refine (mul_nm rb rb xb S _ w4 Rr.an Rr Xn).mono ?_
        rintro e w5 ⟨rfl, Rn, k⟩
        rw [HS1.out] at Rn
        replace b2 := b2.chg k (by have := HD.out.1.2.2; simp; omega)
        replace A := A.chg k (by have := HD.out.2.2.2; simp; omega)
        replace Xn := Xn.chg k (by have := HD.out.2.2.1; simp; omega)
        replace C := C.new k HBr.out
        clear k Rr HS1
        go_wp2_with fail
        exact ⟨⟨i + 1, HI.out, by go_num, b2, Xn.an, A, Rn, C⟩, HM.out⟩
    · obtain rfl : i = N := by omega
      have hI : ¬ (i : Int) < (i : Int) := by omega
      have e0 : IntKind.i64.wrap ((i : Int) - 1) = (i : Int) - 1 := by have := HN.out; rw [IntKind.wrap_i64]; omega
      have O2 : Blk wr ob (rL 32 i (bkR f i)).toArray 23 := O.to (congrArg List.toArray (rL_congr fun j hj => by unfold gvR1 bkR; rw [if_pos hj, if_pos hj]))
      have Rp : Nm wr rb (pw (rsN f i : Int) 1) := by rw [rs_pw]; exact Rr
      clear O h hi Rr
      go_wp2_with fail
      refine (invert_nm rb rb (rsN f i : Int) wr Rp.an Rp).mono ?_
      rintro e w1 ⟨rfl, Rn, k⟩
      have hR := first_R f i
      obtain ⟨R, hRe⟩ : ∃ R, ivq (rsN f i : Int) = R := ⟨_, rfl⟩
      have Rm : Nm w1 rb R := by rw [← hRe]; exact Rn
      rw [hRe] at hR
      replace O2 := O2.chg k (by have := HD.out.1.2.2; simp; omega)
      replace X := X.chg k (by have := HD.out.2.2.1; simp; omega)
      replace A := A.chg k (by have := HD.out.2.2.2; simp; omega)
      replace C := C.new k HBr.out
      have HR : Hid (R * (rsN f i : Int) % P = 1) := hR
      clear k Rn Rp hRe hR
      go_wp2_with fail
      go_loopw [8] (fun t wr => ∃ k : Nat, k ≤ i ∧ t = .int .i64 ((k : Int) - 1) ∧ Blk wr ob (rL 32 i (bkR f k)).toArray 23 ∧ An wr xb ∧ An wr ab ∧ (∃ R, Nm wr rb R ∧ R * (rsN f k : Int) % P = 1) ∧ Chg w wr []) (fun t _ => (intOf t + 1).toNat)
      case atStart => exact ⟨i, Nat.le_refl _, rfl, O2, X, A, ⟨R, Rm, HR.out⟩, C⟩
      case round =>
        clear O2 X A Rm HR C hI e0 R
        obtain ⟨k, hk, rfl, O, X, A, ⟨R, Rr, hR⟩, C⟩ := hrel
        rcases k with _ | k
        · have hI : ¬ (0 : Int) ≤ ((0 : Nat) : Int) - 1 := by omega
          have hI2 : ((0 : Nat) : Int) - 1 < 0 := by omega
          clear hR
          go_wp2_with fail
          go_ret
          exact ⟨ob, rfl, HBo.out, O, C⟩
        · rw [show ((k + 1 : Nat) : Int) - 1 = (k : Int) by omega]
          have hI : (0 : Int) ≤ (k : Int) := by omega
          have hI2 : (k : Int) < (i : Int) := by omega
          have e1 : IntKind.i64.wrap ((k : Int) - 1) = (k : Int) - 1 := by have := HN.out; rw [IntKind.wrap_i64]; omega
          have HK : Hid (k < i) := hk
          have HKi : Hid (k ≤ i) := by show k ≤ i; omega
          have HM : Hid ((intOf (.int .i64 ((k : Int) - 1)) + 1).toNat < (intOf (.int .i64 (k : Int)) + 1).toNat) := by show (intOf (.int .i64 ((k : Int) - 1)) + 1).toNat < (intOf (.int .i64 (k : Int)) + 1).toNat; simp [intOf] <;> omega
          obtain ⟨g, o, rfl, hg, hF⟩ := HP.out k hk
          have HFc : Hid (Fc w g (o + k * 32) ((f k : Nat) : Int)) := hF
          have HGX : Hid (¬ g = xb) := (HG.out g hg).1
          have HFl : Hid (((f k : Nat) : Int) < 115792089237316195423570985008687907853269984665640564039457584007913129639936) := by have := HB.out k hk; show ((f k : Nat) : Int) < _; omega
          have HO : Hid (Rok 32 i (bkR f (k + 1))) := bkR_ok f (k + 1) i
          have HRR : Hid (R * (rsN f (k + 1) : Int) % P = 1) := hR
          have HBS : Hid (upR (bkR f (k + 1)) k (feL (ivq ((f k : Nat) : Int))) = bkR f k) := bkR_step f k
          have HFC : Hid (∀ W, Blk W ob (rL 32 i (bkR f (k + 1))).toArray 23 → Fc W ob (k * 32) (rsN f k : Int)) := fun W hW => Fc.ofRange (by have q := hW.rangeRw HO.out HK.out; rw [bkR_at] at q; exact q) hW.lt
          clear hR hk hF hg
          go_wp2_with fail
          refine (load_at xb g (o + k * 32) ((f k : Nat) : Int) wr (by omega) HFl.out X (HFc.out.chg C (by simp))).mono ?_
          rintro e w3 ⟨rfl, Xn, q⟩
          replace O := O.chg q (by have := HD.out.1.1; simp; omega)
          replace A := A.chg q (by have := HD.out.2.1; simp; omega)
          replace Rr := Rr.chg q (by have := HD.out.2.2.1; simp; omega)
          replace C := C.new q HBx.out
          clear q X
          go_wp2_with fail
          refine (isZero_nm xb _ w3 Xn).mono ?_
          rintro e w4 ⟨rfl, q⟩
          rw [zero_iff]
          replace O := O.chg q (by simp)
          replace A := A.chg q (by simp)
          replace Rr := Rr.chg q (by simp)
          replace Xn := Xn.chg q (by simp)
          replace C := C.trans1 q
          clear q
          by_cases hz : f k % PN = 0
          · rw [decide_eq_true hz]
            have HZ : Hid (upR (bkR f (k + 1)) k (feL 0) = bkR f k) := by show upR (bkR f (k + 1)) k (feL 0) = bkR f k; rw [← HBS.out, ivq_zero _ (Nat.dvd_of_mod_eq_zero hz)]
            have HR1 : Hid (R * (rsN f k : Int) % P = 1) := by show R * (rsN f k : Int) % P = 1; rw [← rsN_zero hz]; exact HRR.out
            clear hz HBS HRR HFC
            generalize bkR f (k + 1) = Q0 at *
            go_wp2_with (first
              | (refine gl_build (by rfl) 23 #[] rfl (feC 0) (by kernel_rfl) ?_)
              | (with_reducible refine wpList_store_rw ?_ 23 (.tmp 46) (.tmp 45) ?_ ob 32 i k Q0 (feL 0) 23 ?_ ?_ O HO.out HK.out (feL_ok 0).1 (feL_ok 0).2 feInfo ?_
                 · rfl
                 · rfl
                 · rfl
                 · rfl
                 intro w2 b2 k2
                 rw [HZ.out] at b2))
            replace Xn := Xn.chg k2 (by have := HD.out.1.1; simp; omega)
            replace A := A.chg k2 (by have := HD.out.1.2.1; simp; omega)
            replace Rr := Rr.chg k2 (by have := HD.out.1.2.2; simp; omega)
            replace C := C.new k2 HBo.out
            exact ⟨⟨k, HKi.out, by go_num, b2, Xn.an, A, ⟨R, Rr, HR1.out⟩, C⟩, HM.out⟩
          · rw [decide_eq_false hz]
            have HOut : Hid ((rsN f k : Int) % P * R % P = ivq ((f k : Nat) : Int)) := back_out hz HRR.out
            have HRest : Hid (R * (((f k : Nat) : Int) % P) % P * (rsN f k : Int) % P = 1) := back_rest hz HRR.out
            have HRs : Hid ((rsN f k : Int) < 115792089237316195423570985008687907853269984665640564039457584007913129639936) := rs_256 f k
            clear hz HRR
            go_wp2_with fail
            refine (load_at ab ob (k * 32) (rsN f k : Int) w4 (by omega) HRs.out A (HFC.out _ O)).mono ?_
            rintro e w5 ⟨rfl, An1, q⟩
            replace O := O.chg q (by have := HD.out.1.2.1; simp; omega)
            replace Rr := Rr.chg q (by have := HD.out.2.2.2; simp; omega)
            replace Xn := Xn.chg q (by have := HD.out.2.1; simp; omega)
            replace C := C.new q HBa.out
            clear q A
            go_wp2_with fail
            refine (mul_nm ab ab rb _ R w5 An1.an An1 Rr).mono ?_
            rintro e w6 ⟨rfl, An2, q⟩
            rw [HOut.out] at An2
            replace O := O.chg q (by have := HD.out.1.2.1; simp; omega)
            replace Rr := Rr.chg q (by have := HD.out.2.2.2; simp; omega)
            replace Xn := Xn.chg q (by have := HD.out.2.1; simp; omega)
            replace C := C.new q HBa.out
            clear q An1 HFC HOut
            obtain ⟨I, hIe⟩ : ∃ I, ivq ((f k : Nat) : Int) = I := ⟨_, rfl⟩
            rw [hIe] at An2 HBS
            clear hIe
            generalize bkR f (k + 1) = Q0 at *
            go_wp2_with fail
            refine (bytes_nm ab I _ An2).mono ?_
            rintro e w7 ⟨rfl, An3, q⟩
            replace O := O.chg q (by have := HD.out.1.2.1; simp; omega)
            replace Rr := Rr.chg q (by have := HD.out.2.2.2; simp; omega)
            replace Xn := Xn.chg q (by have := HD.out.2.1; simp; omega)
            replace C := C.new q HBa.out
            clear q An2
            go_wp2_with (with_reducible refine wpList_store_rw ?_ 23 (.tmp 55) (.tmp 54) ?_ ob 32 i k Q0 (feL I) 23 ?_ ?_ O HO.out HK.out (feL_ok I).1 (feL_ok I).2 feInfo ?_
                         · rfl
                         · rfl
                         · rfl
                         · rfl
                         intro w2 b2 k2
                         rw [HBS.out] at b2)
            replace Xn := Xn.chg k2 (by have := HD.out.1.1; simp; omega)
            replace An3 := An3.chg k2 (by have := HD.out.1.2.1; simp; omega)
            replace Rr := Rr.chg k2 (by have := HD.out.1.2.2; simp; omega)
            replace C := C.new k2 HBo.out
            clear k2 O HO
            refine (mul_nm rb rb xb R _ w2 Rr.an Rr Xn).mono ?_
            rintro e w8 ⟨rfl, Rn, q⟩
            replace b2 := b2.chg q (by have := HD.out.1.2.2; simp; omega)
            replace An3 := An3.chg q (by have := HD.out.2.2.2; simp; omega)
            replace Xn := Xn.chg q (by have := HD.out.2.2.1; simp; omega)
            replace C := C.new q HBr.out
            clear q Rr
            go_wp2_with fail
            exact ⟨⟨k, HKi.out, by go_num, b2, Xn.an, An3.an, ⟨_, Rn, HRest.out⟩, C⟩, HM.out⟩
end Go.Proofs.Ytialljmkkichiab
