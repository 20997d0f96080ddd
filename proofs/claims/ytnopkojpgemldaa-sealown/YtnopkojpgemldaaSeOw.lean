/- SealOwn: the walk. -/
import Derived.Test.YtnopkojpgemldaaSeOn
import Derived.Test.YtnopkojpgemldaaSrMc
import Derived.Test.YtnopkojpgemldaaSeWk
set_option linter.unusedVariables false
set_option linter.unusedSimpArgs false
set_option linter.unnecessarySimpa false
namespace Go.Proofs.Ytnopkojpgemldaa
open Go.RowKit

set_option maxHeartbeats 16000000 in
set_option maxRecDepth 100000 in
theorem sown_walk (k : Nat → Nat) (hk : ∀ i, i < 32 → k i < 256) (nn : Nat → Nat) (hn : ∀ i, i < 12 → nn i < 256) (v0 : Value) (n0 : Nat) (f0 : Nat → Nat) (v1 : Value) (n1 : Nat) (f1 : Nat → Nat) (w : World) (hv0 : Sz w v0 n0 f0) (hv1 : Sz w v1 n1 f1) (h1 : n1 ≤ 140737488351232) :
    Calls Try.prog 8 #[.agg (yC 32 k), .agg (yC 12 nn), v0, v1] w fun e w' => e = .returned (.bool true) ∧ Chg w w' [] := by
  have HV : Hid ((Sz w v0 n0 f0 ∧ Sz w v1 n1 f1) ∧ n1 ≤ 140737488351232) := ⟨⟨hv0, hv1⟩, h1⟩
  have HKN : Hid ((∀ i, i < 32 → k i < 256) ∧ ∀ i, i < 12 → nn i < 256) := ⟨hk, hn⟩
  clear hk hn hv0 hv1 h1
  go_enter Try.func8, Try.ntmps8
  go_wp2_with (first
    | (have _h := BK; refine box_w rfl 25 _ rfl (yC 12 nn) rfl ?_; intro nb w2 hnb BN k2)
    | (refine box_w rfl 23 _ rfl (yC 32 k) rfl ?_; intro kb w1 hkb BK k1))
  have K2 : Chg w w2 [] := k1.trans1 k2
  have BK2 := BK.chg k2 (by simp)
  clear BK k1 k2 hkb hnb
  refine (works_s w2).mono ?_
  rintro e w3 ⟨rfl, k3⟩
  have K3 := K2.trans1 k3
  have BK3 := BK2.chg k3 (by simp)
  have BN3 := BN.chg k3 (by simp)
  clear BK2 BN K2 k3
  go_wp2_with (first
    | (with_reducible refine load_b (BK3.chg k4 (by simp)) 23 (.tmp 4) Try.underlying23 ?_ ?_ ?_ ?_ ?_ ?_
       · rfl
       · rfl
       · rfl
       · rfl
       · (rw [yC_size]; exact keyInfo))
    | (refine alloc_w rfl 77 rfl (.agg (bkC bkNil)) zeroBk (bkC bkNil) rfl ?_; intro gb w4 hgb BG k4))
  have K4 := K3.trans1 k4
  have BK4 := BK3.chg k4 (by simp)
  have BN4 := BN3.chg k4 (by simp)
  have HG : Hid (w.heap.size ≤ gb) := by have := K3.size; show w.heap.size ≤ gb; omega
  clear BK3 BN3 K3 k4 hgb
  refine (New_s k 1 w4).mono ?_
  rintro e w5 ⟨ya, rfl, hya, BA5, k5⟩
  have K5 := K4.trans1 k5
  have BK5 := BK4.chg k5 (by simp)
  have BN5 := BN4.chg k5 (by simp)
  have BG5 := BG.chg k5 (by simp)
  have HYA : Hid (w.heap.size ≤ ya) := by have := K4.size; show w.heap.size ≤ ya; omega
  clear BK4 BN4 BG K4 k5 hya
  go_wp2_with (first
    | (with_reducible refine load_b BK5 23 (.tmp 4) Try.underlying23 ?_ ?_ ?_ ?_ ?_ ?_
       · rfl
       · rfl
       · rfl
       · rfl
       · (rw [yC_size]; exact keyInfo)))
  refine (New_s k 1 w5).mono ?_
  rintro e w6 ⟨yb, rfl, hyb, BB6, k6⟩
  have K6 := K5.trans1 k6
  have HNE : Hid (ya ≠ yb ∧ w.heap.size ≤ ya ∧ w.heap.size ≤ gb ∧ w.heap.size ≤ w6.heap.size) := ⟨by have := BA5.lt; omega, HYA.out, HG.out, by have := K6.size; omega⟩
  have S0 : SO w w6 k nn kb nb ya yb gb w6.heap.size 1 [] 0 := ⟨BK5.chg k6 (by simp), BN5.chg k6 (by simp), BA5.chg k6 (by simp), BB6, (BkY.zero (fun _ _ => rfl) BG5 (Nat.le_refl _) : BkY w5 gb gb w6.heap.size [] 0).chg k6, K6, fun y hy => by simp at hy, Nat.le_refl _, HNE.out⟩
  clear BK5 BN5 BA5 BB6 BG5 K5 K6 k6 hyb HG HYA HNE
  go_wp2_with fail
  go_loopw [12] (fun t wr => ∃ (i : Nat) (L : List Nat) (K : Nat), i ≤ 2 ∧ t = .int .i64 (i : Int) ∧ SO w wr k nn kb nb ya yb gb w6.heap.size (1 + i) L K ∧ K ≤ 5 * i) (fun t _ => (2 - intOf t).toNat)
  case atStart => exact ⟨0, [], 0, by omega, rfl, S0, by omega⟩
  case round =>
    clear S0
    obtain ⟨i, L, K, hi, rfl, S, hK⟩ := hrel
    have HK : Hid (K ≤ 5 * i ∧ i ≤ 2) := ⟨hK, hi⟩
    clear hK
    by_cases h8 : i < 2
    · have hI : (i : Int) < 2 := by omega
      have e1 : IntKind.i64.wrap ((i : Int) + 1) = (i : Int) + 1 := by rw [IntKind.wrap_i64]; omega
      have HI : Hid (i < 2) := h8
      have HL0 : Hid (∀ y, y ∈ L → y < wr.heap.size) := S.ll
      have HLO : Hid (w6.heap.size ≤ wr.heap.size) := S.lo
      clear h8 hi
      have BK := S.key
      have BN := S.non'
      go_wp2_with (first
        | (with_reducible refine load_b BK 23 (.tmp 4) Try.underlying23 ?_ ?_ ?_ ?_ ?_ ?_
           · rfl
           · rfl
           · rfl
           · rfl
           · (rw [yC_size]; exact keyInfo))
        | (with_reducible refine load_b BN 25 (.tmp 5) Try.underlying25 ?_ ?_ ?_ ?_ ?_ ?_
           · rfl
           · rfl
           · rfl
           · rfl
           · (rw [yC_size]; exact nonInfo)))
      clear BK BN
      refine (Stream_n k nn HKN.out.1 HKN.out.2 v1 n1 f1 wr (HV.out.1.2.kept S.cc) HV.out.2).mono ?_
      rintro e a1 ⟨x1, m1, rfl, A1, c1⟩
      have Z1 : Hid (wr.heap.size ≤ a1.heap.size) := c1.size
      replace S := S.c0 c1
      clear c1
      have BK := S.key
      have BN := S.non'
      go_wp2_with (first
        | (with_reducible refine load_b BK 23 (.tmp 4) Try.underlying23 ?_ ?_ ?_ ?_ ?_ ?_
           · rfl
           · rfl
           · rfl
           · rfl
           · (rw [yC_size]; exact keyInfo))
        | (with_reducible refine load_b BN 25 (.tmp 5) Try.underlying25 ?_ ?_ ?_ ?_ ?_ ?_
           · rfl
           · rfl
           · rfl
           · rfl
           · (rw [yC_size]; exact nonInfo)))
      clear BK BN
      refine (Seal_n k nn HKN.out.1 HKN.out.2 v0 n0 f0 v1 n1 f1 a1 (HV.out.1.1.kept S.cc) (HV.out.1.2.kept S.cc) HV.out.2).mono ?_
      rintro e a2 ⟨x2, rfl, A2, T2, c2⟩
      have Z2 : Hid (a1.heap.size ≤ a2.heap.size) := c2.size
      replace S := S.c0 c2
      replace A1 := A1.chg c2 (Fr.none0 _ _)
      obtain ⟨F2, hF2⟩ : ∃ F, sealB k nn n0 f0 n1 f1 = F := ⟨_, rfl⟩
      rw [hF2] at T2
      clear c2 hF2
      have BK := S.key
      have BN := S.non'
      go_wp2_with (first
        | (with_reducible refine load_b BK 23 (.tmp 4) Try.underlying23 ?_ ?_ ?_ ?_ ?_ ?_
           · rfl
           · rfl
           · rfl
           · rfl
           · (rw [yC_size]; exact keyInfo))
        | (with_reducible refine load_b BN 25 (.tmp 5) Try.underlying25 ?_ ?_ ?_ ?_ ?_ ?_
           · rfl
           · rfl
           · rfl
           · rfl
           · (rw [yC_size]; exact nonInfo)))
      clear BK BN
      refine (Open_n k nn HKN.out.1 HKN.out.2 v0 n0 f0 _ n1 F2 a2 (HV.out.1.1.kept S.cc) T2 HV.out.2).mono ?_
      rintro e a3 ⟨x3, m3, rfl, A3, c3⟩
      have Z3 : Hid (a2.heap.size ≤ a3.heap.size) := c3.size
      replace S := S.c0 c3
      replace A1 := A1.chg c3 (Fr.none0 _ _)
      replace A2 := A2.chg c3 (Fr.none0 _ _)
      clear c3 T2
      go_wp2_with fail
      refine (Box_n ya (1 + i) k HKN.out.1 (by have := HI.out; omega) v0 n0 f0 v1 n1 f1 a3 S.a (HV.out.1.1.kept S.cc) (HV.out.1.1.new [ya] (by have := S.sep; simp; omega)) (HV.out.1.2.kept S.cc) (HV.out.1.2.new [ya] (by have := S.sep; simp; omega)) HV.out.2).mono ?_
      rintro e a4 ⟨x4, rfl, A4, T4, B4, c4⟩
      have Z4 : Hid (a3.heap.size ≤ a4.heap.size) := c4.size
      replace A1 := A1.chg c4 (Fr.one S.a (by decide))
      replace A2 := A2.chg c4 (Fr.one S.a (by decide))
      replace A3 := A3.chg c4 (Fr.one S.a (by decide))
      replace S := S.box B4 c4
      obtain ⟨F4, hF4⟩ : ∃ F, boxB k (1 + i) n0 f0 n1 f1 = F := ⟨_, rfl⟩
      rw [hF4] at T4
      clear c4 hF4 B4
      have BK := S.key
      go_wp2_with (first
        | (with_reducible refine load_b BK 23 (.tmp 4) Try.underlying23 ?_ ?_ ?_ ?_ ?_ ?_
           · rfl
           · rfl
           · rfl
           · rfl
           · (rw [yC_size]; exact keyInfo)))
      clear BK
      refine (Unbox_n k HKN.out.1 v0 n0 f0 _ n1 F4 a4 (HV.out.1.1.kept S.cc) T4 HV.out.2).mono ?_
      rintro e a5 ⟨x5, y5, m5, rfl, A5, c5⟩
      have Z5 : Hid (a4.heap.size ≤ a5.heap.size) := c5.size
      replace S := S.c0 c5
      replace A1 := A1.chg c5 (Fr.none0 _ _)
      replace A2 := A2.chg c5 (Fr.none0 _ _)
      replace A3 := A3.chg c5 (Fr.none0 _ _)
      replace A4 := A4.chg c5 (Fr.none0 _ _)
      clear c5 T4
      go_wp2_with fail
      refine (S.add (by have := HK.out; omega) A1 HL0.out HLO.out Z1.out (by have := Z2.out; have := Z3.out; have := Z4.out; have := Z5.out; omega)).mono ?_
      rintro e b1 ⟨rfl, L1, K1, hK1, S1, hL1, q1, z1⟩
      have HL1 : Hid (∀ y, y ∈ L1 → y < a1.heap.size) := hL1
      have HK1 : Hid (K1 ≤ K + 1 ∧ a5.heap.size ≤ b1.heap.size) := ⟨hK1, z1⟩
      replace A2 := q1 _ _ _ A2
      replace A3 := q1 _ _ _ A3
      replace A4 := q1 _ _ _ A4
      replace A5 := q1 _ _ _ A5
      clear S A1 hK1 hL1 q1 z1
      go_wp2_with fail
      refine (S1.add (by have := HK.out; have := HK1.out; omega) A2 HL1.out (by have := HLO.out; have := Z1.out; omega) Z2.out (by have := Z3.out; have := Z4.out; have := Z5.out; have := HK1.out; omega)).mono ?_
      rintro e b2 ⟨rfl, L2, K2, hK2, S2, hL2, q2, z2⟩
      have HL2 : Hid (∀ y, y ∈ L2 → y < a2.heap.size) := hL2
      have HK2 : Hid (K2 ≤ K1 + 1 ∧ b1.heap.size ≤ b2.heap.size) := ⟨hK2, z2⟩
      replace A3 := q2 _ _ _ A3
      replace A4 := q2 _ _ _ A4
      replace A5 := q2 _ _ _ A5
      clear S1 A2 hK2 hL2 q2 z2
      go_wp2_with fail
      refine (S2.add (by have := HK.out; have := HK1.out; have := HK2.out; omega) A3 HL2.out (by have := HLO.out; have := Z1.out; have := Z2.out; omega) Z3.out (by have := Z4.out; have := Z5.out; have := HK1.out; have := HK2.out; omega)).mono ?_
      rintro e b3 ⟨rfl, L3, K3, hK3, S3, hL3, q3, z3⟩
      have HL3 : Hid (∀ y, y ∈ L3 → y < a3.heap.size) := hL3
      have HK3 : Hid (K3 ≤ K2 + 1 ∧ b2.heap.size ≤ b3.heap.size) := ⟨hK3, z3⟩
      replace A4 := q3 _ _ _ A4
      replace A5 := q3 _ _ _ A5
      clear S2 A3 hK3 hL3 q3 z3
      go_wp2_with fail
      refine (S3.add (by have := HK.out; have := HK1.out; have := HK2.out; have := HK3.out; omega) A4 HL3.out (by have := HLO.out; have := Z1.out; have := Z2.out; have := Z3.out; omega) Z4.out (by have := Z5.out; have := HK1.out; have := HK2.out; have := HK3.out; omega)).mono ?_
      rintro e b4 ⟨rfl, L4, K4, hK4, S4, hL4, q4, z4⟩
      have HL4 : Hid (∀ y, y ∈ L4 → y < a4.heap.size) := hL4
      have HK4 : Hid (K4 ≤ K3 + 1 ∧ b3.heap.size ≤ b4.heap.size) := ⟨hK4, z4⟩
      replace A5 := q4 _ _ _ A5
      clear S3 A4 hK4 hL4 q4 z4
      go_wp2_with fail
      refine (S4.add (by have := HK.out; have := HK1.out; have := HK2.out; have := HK3.out; have := HK4.out; omega) A5 HL4.out (by have := HLO.out; have := Z1.out; have := Z2.out; have := Z3.out; have := Z4.out; omega) Z5.out (by have := HK1.out; have := HK2.out; have := HK3.out; have := HK4.out; omega)).mono ?_
      rintro e b5 ⟨rfl, L5, K5, hK5, S5, _, _, _⟩
      have HE : Hid (i + 1 ≤ 2 ∧ K5 ≤ 5 * (i + 1)) := by have := HI.out; have := HK.out; have := HK1.out; have := HK2.out; have := HK3.out; have := HK4.out; exact ⟨by omega, by omega⟩
      clear S4 A5 hK5
      go_wp2_with fail
      exact ⟨⟨i + 1, L5, K5, HE.out.1, by go_num, S5, HE.out.2⟩, by have := HE.out; simp [intOf]; omega⟩
    · have hI : ¬ (i : Int) < 2 := by omega
      obtain rfl : i = 2 := by omega
      clear hi h8
      go_wp2_with fail
      refine (S.apart (by have := HK.out; omega)).mono ?_
      have HSP : Hid (w.heap.size ≤ ya) := S.sep.2.1
      rintro e w8 ⟨rfl, BK8, BN8, BA8, BB8, C8⟩
      replace BA8 : Blk w8 ya (slC k 3 true) 80 := BA8
      clear S HK
      go_wp2_with fail
      refine (Next_s ya 3 k true w8 BA8).mono ?_
      rintro e w9 ⟨rfl, rfl⟩
      go_wp2_with fail
      refine (Next_s yb 1 k true w9 BB8).mono ?_
      rintro e w10 ⟨rfl, rfl⟩
      clear BA8 BB8
      go_wp2_with fail
      refine (CopyBytes_z v1 n1 f1 w10 (by have := HV.out.2; omega) (HV.out.1.2.kept C8)).mono ?_
      rintro e w11 ⟨v', rfl, O, k11⟩
      obtain ⟨p, c, rfl, T⟩ := O.tb
      have HB : Hid (w.heap.size ≤ w10.heap.size) := C8.size
      have C11 := C8.trans1 k11
      have BK11 := BK8.chg k11 (by simp)
      have BN11 := BN8.chg k11 (by simp)
      clear BK8 BN8 O C8 k11
      obtain ⟨fo, Zo⟩ := T.sz
      go_wp2_with (first
        | (with_reducible refine load_b BK11 23 (.tmp 4) Try.underlying23 ?_ ?_ ?_ ?_ ?_ ?_
           · rfl
           · rfl
           · rfl
           · rfl
           · (rw [yC_size]; exact keyInfo)))
      refine (Mac_s k HKN.out.1 _ n1 fo w11 Zo).mono ?_
      rintro e w12 ⟨rfl, k12⟩
      have C12 := C11.trans1 k12
      have BK12 := BK11.chg k12 (by simp)
      have BN12 := BN11.chg k12 (by simp)
      have T12 := T.chg k12
      have Z12 := Zo.kept k12
      clear BK11 BN11 T Zo C11 k12
      go_wp2_with (first
        | (with_reducible refine load_b BK12 23 (.tmp 4) Try.underlying23 ?_ ?_ ?_ ?_ ?_ ?_
           · rfl
           · rfl
           · rfl
           · rfl
           · (rw [yC_size]; exact keyInfo))
        | (with_reducible refine load_b BN12 25 (.tmp 5) Try.underlying25 ?_ ?_ ?_ ?_ ?_ ?_
           · rfl
           · rfl
           · rfl
           · rfl
           · (rw [yC_size]; exact nonInfo)))
      refine (Seal_n k nn HKN.out.1 HKN.out.2 v0 n0 f0 _ n1 fo w12 (HV.out.1.1.kept C12) Z12 HV.out.2).mono ?_
      rintro e w13 ⟨x13, rfl, _, _, k13⟩
      have C13 := C12.trans1 k13
      have BK13 := BK12.chg k13 (by simp)
      have T13 := T12.chg k13
      clear BK12 BN12 T12 Z12 C12 k13
      go_wp2_with fail
      go_loopw [24] (fun t wr => ∃ (i : Nat), i ≤ n1 ∧ t = .int .i64 (i : Int) ∧ Blk wr kb (yC 32 k) 23 ∧ Tb wr w10.heap.size p n1 c ∧ Chg w wr []) (fun t _ => ((n1 : Int) - intOf t).toNat)
      case atStart => exact ⟨0, by omega, rfl, BK13, T13, C13⟩
      case round =>
        clear BK13 T13 C13
        obtain ⟨i, hi, rfl, BK, T, C⟩ := hrel
        by_cases h8 : i < n1
        · have hI : (i : Int) < (n1 : Int) := by omega
          have hI0 : (0 : Int) ≤ (i : Int) := by omega
          have HN : Hid (n1 ≤ 140737488351232 ∧ i < n1) := ⟨HV.out.2, h8⟩
          have e1 : IntKind.i64.wrap ((i : Int) + 1) = (i : Int) + 1 := by have := HN.out; rw [IntKind.wrap_i64]; omega
          obtain ⟨g, z, D, rfl, hg, hnc, hz, BG, cz, fz, hset⟩ := T.at h8
          have hic : (i : Int) < (c : Int) := by omega
          have ex : bits .xor .u8 ((z : Nat) : Int) 85 = ((z ^^^ 85 : Nat) : Int) := u8_xor_nat z 85 hz (by omega)
          have HSET := hset (z ^^^ 85) (Nat.xor_lt_two_pow (n := 8) hz (by omega))
          have BK1 := BK.setOther (show kb ≠ g from BK.ne BG (by decide)) i (.int .u8 ((z ^^^ 85 : Nat) : Int))
          have C1 : Chg w (wr.setCell ⟨g, i, none⟩ (.int .u8 ((z ^^^ 85 : Nat) : Int))) [] := C.setNew (by have := HB.out; omega) i _
          clear hg hnc hz BG hset h8 hi T
          go_wp2_with fail
          exact ⟨⟨i + 1, by have := HN.out; omega, by go_num, BK1, HSET, C1⟩, by have := HN.out; simp [intOf]; omega⟩
        · have hI : ¬ (i : Int) < (n1 : Int) := by omega
          obtain ⟨fo, Zo⟩ := T.sz
          have HC1 : Hid (∀ w' v', Sz w' v' n1 fo → Calls Try.prog 17 #[.agg (yC 32 k), v'] w' fun e w'' => e = .returned (.agg (yC 16 (macB k n1 fo))) ∧ Chg w' w'' []) := fun w' v' h => Mac_s k HKN.out.1 v' n1 fo w' h
          have HC2 : Hid (∀ w' v', Sz w' v' n1 fo → Calls Try.prog 25 #[.agg (yC 32 k), v'] w' fun e w'' => e = .returned (.agg (yC 16 (macB k n1 fo))) ∧ Chg w' w'' []) := fun w' v' h => Mac_r k HKN.out.1 v' n1 fo w' h (by have := HV.out.2; omega)
          obtain ⟨M, hM⟩ : ∃ M, macB k n1 fo = M := ⟨_, rfl⟩
          rw [hM] at HC1 HC2
          clear hM hi h8 T
          go_wp2_with fail
          refine lt_begin (fun w' => Blk w' kb (yC 32 k) 23) (fun _ => false) (by kernel_rfl) ?_
          have hHeld := BK.drew
          have ZD := Zo.kept (Chg.refl wr []).drew
          have CD := C.drew
          obtain ⟨z, hz⟩ : ∃ z, z = wr.drew := ⟨_, rfl⟩
          rw [← hz] at hHeld ZD CD ⊢
          clear hz BK Zo C
          refine lt_read (v := (.agg (yC 32 k))) 0 (some 126) rfl (by kernel_rfl) (by kernel_rfl) (by kernel_rfl) (by kernel_rfl) (fun _ _ _ h => h) rfl rfl (fun w hSw => ?_) hHeld ?_
          · skip; exact (exec_load_b w 23 (.tmp 4) rfl kb rfl hSw Try.underlying23 rfl (by rw [yC_size]; exact keyInfo))
          try simp only [Act.put, List.setIfInBounds_toArray, List.set_cons_zero, List.set_cons_succ]
          refine lt_val (v := ?_) 1 (some 127) rfl (by kernel_rfl) (by kernel_rfl) (by kernel_rfl) (fun _ _ _ h => h) rfl rfl (fun w => ?_) ?_
          rotate_left
          · (go_simp; try with_reducible rfl)
          try simp only [Act.put, List.setIfInBounds_toArray, List.set_cons_zero, List.set_cons_succ]
          refine lt_read (v := (.agg (yC 32 k))) 3 (some 129) rfl (by kernel_rfl) (by kernel_rfl) (by kernel_rfl) (by kernel_rfl) (fun _ _ _ h => h) rfl rfl (fun w hSw => ?_) hHeld ?_
          · skip; exact (exec_load_b w 23 (.tmp 4) rfl kb rfl hSw Try.underlying23 rfl (by rw [yC_size]; exact keyInfo))
          try simp only [Act.put, List.setIfInBounds_toArray, List.set_cons_zero, List.set_cons_succ]
          refine lt_val (v := ?_) 4 (some 130) rfl (by kernel_rfl) (by kernel_rfl) (by kernel_rfl) (fun _ _ _ h => h) rfl rfl (fun w => ?_) ?_
          rotate_left
          · (go_simp; try with_reducible rfl)
          try simp only [Act.put, List.setIfInBounds_toArray, List.set_cons_zero, List.set_cons_succ]
          refine lt_one 2 rfl (by kernel_rfl) rfl (fun K hK => ?_)
          go_simp
          refine (HC1.out _ _ ZD).mono ?_
          rintro e w14 ⟨rfl, k14⟩
          go_wp2_with fail
          refine hK.out _ _ (fun _ h => h.chg k14 (by simp)) ?_
          replace hHeld := hHeld.chg k14 (by simp)
          have Z14 := ZD.kept k14
          have C14 := CD.trans1 k14
          clear ZD CD k14
          clear hK K
          try simp only [Act.put, List.setIfInBounds_toArray, List.set_cons_zero, List.set_cons_succ]
          refine lt_one 5 rfl (by kernel_rfl) rfl (fun K hK => ?_)
          go_simp
          refine (HC2.out _ _ Z14).mono ?_
          rintro e w15 ⟨rfl, k15⟩
          go_wp2_with fail
          refine hK.out _ _ (fun _ h => h.chg k15 (by simp)) ?_
          have C15 := C14.trans1 k15
          clear Z14 C14 k15 hHeld
          clear hK K
          try simp only [Act.put, List.setIfInBounds_toArray, List.set_cons_zero, List.set_cons_succ]
          refine lt_val (v := (.bool false)) 6 (some 132) rfl (by kernel_rfl) (by kernel_rfl) (by kernel_rfl) (fun _ _ _ h => h) rfl rfl (fun w => ?_) ?_
          · (go_simp; rw [(eqn_iff 16 _ _).2 (fun _ _ => rfl)])
          try simp only [Act.put, List.setIfInBounds_toArray, List.set_cons_zero, List.set_cons_succ]
          refine lt_done (by kernel_rfl) ?_ _
          go_wp2_with (first
            | (refine wpList_build0 rfl 80 rfl (slC (fun _ => 0) 0 false) slC_zero ?_)
            | (refine box_w rfl 80 (.tmp 133) rfl (slC (fun _ => 0) 0 false) rfl ?_; intro zb w16 hzb BZ16 k16))
          have C16 := C15.trans1 k16
          clear C15 k16 hzb
          refine (Next_s zb 0 (fun _ => 0) false w16 BZ16).mono ?_
          rintro e w17 ⟨rfl, rfl⟩
          go_wp2_with fail
          refine (Box_not zb 0 (fun _ => 0) _ _ w17 BZ16).mono ?_
          rintro e w18 ⟨rfl, rfl⟩
          clear BZ16
          go_wp2_with fail
          refine (Box_nil _ _ w18).mono ?_
          rintro e w19 ⟨rfl, rfl⟩
          go_wp2_with fail
          refine (Next_nil w19).mono ?_
          rintro e w20 ⟨rfl, rfl⟩
          go_wp2_with fail
          go_ret
          exact ⟨rfl, C16⟩
end Go.Proofs.Ytnopkojpgemldaa
