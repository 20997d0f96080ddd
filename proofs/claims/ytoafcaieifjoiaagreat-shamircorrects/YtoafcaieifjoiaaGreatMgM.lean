/- Joined: RPower, PowR, RInvR. -/
import Derived.Test.YtoafcaieifjoiaaGreatMgK
import Derived.Test.YtoafcaieifjoiaaGreatBsI
import Derived.Test.YtoafcaieifjoiaaGreatMgSI
import Derived.Test.YtoafcaieifjoiaaGreatMgB
/- rimeref02.Power. -/
set_option linter.unusedVariables false
set_option linter.unusedSimpArgs false
set_option linter.unnecessarySimpa false
namespace Go.Proofs.YtoafcaieifjoiaaGreat
open Go.RowKit N

/-- x to the power e, modulo the order. -/
def pN (x e : Nat) : Nat := x ^ e % LN
theorem pN_lt (x e : Nat) : pN x e < 115792089237316195423570985008687907853269984665640564039457584007913129639936 := modL_lt _
theorem pN_zero (x : Nat) : pN x 0 = 1 := by unfold pN LN; rw [Nat.pow_zero]
theorem pN_dbl (x e : Nat) : mlP (pN x e) (pN x e) = pN x (2 * e) := by unfold mlP pN; rw [← Nat.mul_mod, ← Nat.pow_add, Nat.two_mul]
theorem pN_inc (x e : Nat) : mlP (pN x e) (x % LN) = pN x (e + 1) := by unfold mlP pN; rw [← Nat.mul_mod, Nat.pow_succ]
theorem bit8 (x k : Nat) (hx : x < 256) : bits .and .u8 ((x : Int) / 2 ^ k) 1 = ((x / 2 ^ k % 2 : Nat) : Int) := by
  have e : (x : Int) / 2 ^ k = ((x / 2 ^ k : Nat) : Int) := by rw [Int.natCast_ediv, Int.natCast_pow]; rfl
  have hl : x / 2 ^ k ≤ x := Nat.div_le_self _ _
  rw [e]
  have h := u8_and_nat (x / 2 ^ k) 1 (by omega) (by omega)
  rw [nat_mask1] at h
  exact h
theorem bit_step8 (E x j : Nat) (hj : j < 8) : E * 2 ^ (8 - j) + x / 2 ^ j = 2 * (E * 2 ^ (8 - (j + 1)) + x / 2 ^ (j + 1)) + x / 2 ^ j % 2 := by
  have e1 : 8 - j = (8 - (j + 1)) + 1 := by omega
  rw [e1, Nat.pow_succ 2 (8 - (j + 1)), Nat.pow_succ 2 j, ← Nat.div_div_eq_div_mul, ← Nat.mul_assoc]
  omega

set_option maxHeartbeats 4000000 in
set_option maxRecDepth 100000 in
theorem Power_r (n : Nat) (hn : n < 115792089237316195423570985008687907853269984665640564039457584007913129639936) (g o len cap : Nat) (b : Nat → Nat) (hlen : len ≤ 140737488355328) (w : World) (hB : Bs w g o len b) :
    Calls Tryz.prog 129 #[fe (n : Int), .slice (some ⟨g, o, none⟩) len cap] w fun e w' => e = .returned (fe ((pN n (nb b 0 len) : Nat) : Int)) ∧ Chg w w' [] := by
  have hg := hB.lt
  have hbd := hB.bd
  have F0 : Blk ((w.alloc (.cells (feC (n : Int)) 24)).alloc (.cells z32 24)) w.heap.size (feC (n : Int)) 24 := (Blk.new w (feC (n : Int)) 24).alloc _
  have F1 : Blk ((w.alloc (.cells (feC (n : Int)) 24)).alloc (.cells z32 24)) (w.heap.size + 1) z32 24 := by have h := Blk.new (w.alloc (.cells (feC (n : Int)) 24)) z32 24; simpa using h
  have CC : Chg w ((w.alloc (.cells (feC (n : Int)) 24)).alloc (.cells z32 24)) [] := ((Chg.refl w []).alloc _).alloc _
  replace hB := hB.chg CC (by simp)
  obtain ⟨X, hX⟩ : ∃ X, n % LN = X := ⟨_, rfl⟩
  have lX : X < 115792089237316195423570985008687907853269984665640564039457584007913129639936 := by rw [← hX]; exact modL_lt n
  have HX : Hid (n % LN = X) := hX
  clear hX
  go_enter Tryz.func129, Tryz.ntmps129
  go_wp2_with (refine wpList_load_row rfl 24 _ rfl w.heap.size rfl 24 _ (0, 0) _ F0 Tryz.underlying24 rfl feInfo ?_)
  refine (Value_r n hn _).mono ?_
  rintro e v1 ⟨rfl, k⟩
  rw [HX.out]
  have sz1 : w.heap.size + 1 < v1.heap.size := (F1.chg k (by simp)).lt
  replace hB := hB.chg k (by simp)
  have A := Blk.new v1 z8u 190
  have D : Blk (((v1.alloc (.cells z8u 190)).setRow v1.heap.size (dC X)).alloc (.cells z8u 190)) (v1.heap.size + 1) z8u 190 := by have h := Blk.new ((v1.alloc (.cells z8u 190)).setRow v1.heap.size (dC X)) z8u 190; simpa using h
  have KS : Chg v1 ((((v1.alloc (.cells z8u 190)).setRow v1.heap.size (dC X)).alloc (.cells z8u 190)).setRow (v1.heap.size + 1) (dC 1)) [] := ((((Chg.refl v1 []).alloc (.cells z8u 190)).setRowNew (Nat.le_refl _) (dC X)).alloc (.cells z8u 190)).setRowNew (by omega) (dC 1)
  have A' : Blk ((((v1.alloc (.cells z8u 190)).setRow v1.heap.size (dC X)).alloc (.cells z8u 190)).setRow (v1.heap.size + 1) (dC 1)) v1.heap.size (dC X) 190 := ((A.setRow _).alloc _).setRowOther (by omega) _
  have D' : Blk ((((v1.alloc (.cells z8u 190)).setRow v1.heap.size (dC X)).alloc (.cells z8u 190)).setRow (v1.heap.size + 1) (dC 1)) (v1.heap.size + 1) (dC 1) 190 := D.setRow _
  replace F1 := (F1.chg k (by simp)).chg KS (by simp)
  replace hB := hB.chg KS (by simp)
  replace CC := (CC.trans1 k).trans1 KS
  clear F0 k KS
  go_wp2_with (first | (refine wpList_store_row rfl 190 _ _ rfl v1.heap.size _ rfl rfl 190 _ A NumInfo rfl (dC_one _) ?_) | (refine gl_build (by rfl) 190 #[(0, .const (.int .u32 1))] rfl (dC 1) (by kernel_rfl) ?_) | (refine wpList_store_row rfl 190 _ _ rfl (v1.heap.size + 1) _ rfl rfl 190 _ D NumInfo rfl (dC_one _) ?_))
  clear A D
  generalize hv2 : ((((v1.alloc (.cells z8u 190)).setRow v1.heap.size (dC X)).alloc (.cells z8u 190)).setRow (v1.heap.size + 1) (dC 1)) = v2 at F1 A' D' CC hB
  try (change Code.wp _ _ _ _ ((((v1.alloc (.cells z8u 190)).setRow v1.heap.size (dC X)).alloc (.cells z8u 190)).setRow (v1.heap.size + 1) (dC 1)); rw [hv2])
  clear hv2
  generalize v1.heap.size = gx at *
  go_loopw [7] (fun t wr => ∃ k : Nat, k ≤ len ∧ t = .int .i64 ((k : Int) - 1) ∧ Blk wr (gx + 1) (dC (pN n (nb b k (len - k)))) 190 ∧ Blk wr gx (dC X) 190 ∧ Blk wr (w.heap.size + 1) z32 24 ∧ Bs wr g o len b ∧ Chg w wr []) (fun t _ => (intOf t + 1).toNat)
  case atStart => exact ⟨len, Nat.le_refl _, rfl, by rw [Nat.sub_self]; show Blk v2 (gx + 1) (dC (pN n 0)) 190; rw [pN_zero]; exact D', A', F1, hB, CC⟩
  case round =>
    obtain ⟨k, hk, rfl, r0, r1, r2, r3, r4⟩ := hrel
    clear A' D' F1 hB CC
    by_cases hk0 : k = 0
    · subst hk0
      have hneg : ¬ (0 : Int) ≤ ((0 : Nat) : Int) - 1 := by omega
      rw [Nat.sub_zero] at r0
      go_wp2_with (refine wpList_load_row rfl 190 _ rfl (gx + 1) rfl 190 _ (0, 0) _ r0 Tryz.underlying190 rfl (by first | exact NumInfo | (rw [dC_size]; exact NumInfo)) ?_)
      refine (Back_r _ _).mono ?_
      rintro e v3 ⟨rfl, k⟩
      replace r2 := r2.chg k (by simp)
      replace r4 := r4.trans1 k
      go_wp2_with (refine wpList_store_row rfl 24 _ _ rfl (w.heap.size + 1) _ rfl rfl 24 _ r2 feInfo rfl (feC_one _) ?_)
      exact bodyPost_ret (results_cell_row Tryz.results129 _ _ (w.heap.size + 1) 24 (feC ((pN n (nb b 0 len) : Nat) : Int)) (0, 0) _ rfl (Blk.setRow r2 _) Tryz.underlying24 rfl feInfo) rfl ⟨rfl, r4.setRowNew (by omega) _⟩
    · obtain ⟨i, rfl⟩ : ∃ i, k = i + 1 := ⟨k - 1, by omega⟩
      have e1 : (((i + 1 : Nat) : Int) - 1) = (i : Int) := by omega
      rw [e1]
      clear e1 hk0
      have hin : i < len := by omega
      have hI0 : (0 : Int) ≤ (i : Int) := by omega
      have hIn : (i : Int) < (len : Int) := by omega
      have hx := hbd i hin
      have HE : Hid (nb b i (len - i) = nb b (i + 1) (len - (i + 1)) * 2 ^ (8 - 0) + b i / 2 ^ 0) := by
        show nb b i (len - i) = nb b (i + 1) (len - (i + 1)) * 2 ^ (8 - 0) + b i / 2 ^ 0
        rw [show len - i = (len - (i + 1)) + 1 by omega, nb_succ, Nat.pow_zero, Nat.div_one]
        omega
      generalize nb b (i + 1) (len - (i + 1)) = E at *
      go_wp2_with fail
      go_loopw [8] (fun t wr => ∃ j : Nat, j ≤ 8 ∧ t = .int .i64 ((j : Int) - 1) ∧ Blk wr (gx + 1) (dC (pN n (E * 2 ^ (8 - j) + b i / 2 ^ j))) 190 ∧ Blk wr gx (dC X) 190 ∧ Blk wr (w.heap.size + 1) z32 24 ∧ Bs wr g o len b ∧ Chg w wr []) (fun t _ => (intOf t + 1).toNat)
      case atStart => exact ⟨8, by omega, rfl, by rw [Nat.sub_self, Nat.pow_zero, Nat.mul_one, Nat.div_eq_of_lt (by omega), Nat.add_zero]; exact r0, r1, r2, r3, r4⟩
      case round =>
        obtain ⟨j, hj, rfl, s0, s1, s2, s3, s4⟩ := hrel
        clear r0 r1 r2 r3 r4
        by_cases hj0 : j = 0
        · subst hj0
          have hneg : ¬ (0 : Int) ≤ ((0 : Nat) : Int) - 1 := by omega
          go_wp2_with fail
          exact ⟨⟨i, by omega, by go_num, by rw [HE.out]; exact s0, s1, s2, s3, s4⟩, by simp [intOf]⟩
        · obtain ⟨q, rfl⟩ : ∃ q, j = q + 1 := ⟨j - 1, by omega⟩
          have e1 : (((q + 1 : Nat) : Int) - 1) = (q : Int) := by omega
          rw [e1]
          clear e1 hj0
          have hq0 : (0 : Int) ≤ (q : Int) := by omega
          have hst : Hid (E * 2 ^ (8 - q) + b i / 2 ^ q = 2 * (E * 2 ^ (8 - (q + 1)) + b i / 2 ^ (q + 1)) + b i / 2 ^ q % 2) := bit_step8 E (b i) q (by omega)
          have hbit := bit8 (b i) q hx
          generalize E * 2 ^ (8 - (q + 1)) + b i / 2 ^ (q + 1) = E1 at s0 hst
          have hw : IntKind.u64.wrap ((q : Nat) : Int) = ((q : Nat) : Int) := by rw [IntKind.wrap_u64]; omega
          have hmi : min q 8 = q := by omega
          go_wp2_with (refine wpList_load_row rfl 190 _ rfl (gx + 1) rfl 190 _ (0, 0) _ s0 Tryz.underlying190 rfl (by first | exact NumInfo | (rw [dC_size]; exact NumInfo)) ?_)
          refine (mul_p _ _ (pN_lt _ _) (pN_lt _ _) _).mono ?_
          rintro e v3 ⟨rfl, k⟩
          rw [pN_dbl]
          replace s0 := s0.chg k (by simp)
          replace s1 := s1.chg k (by simp)
          replace s2 := s2.chg k (by simp)
          replace s3 := s3.chg k (by simp)
          replace s4 := s4.trans1 k
          clear k
          obtain ⟨e2, he2⟩ : ∃ e2, 2 * E1 = e2 := ⟨_, rfl⟩
          have hst2 : Hid (E * 2 ^ (8 - q) + b i / 2 ^ q = e2 + b i / 2 ^ q % 2) := by show E * 2 ^ (8 - q) + b i / 2 ^ q = e2 + b i / 2 ^ q % 2; rw [← he2]; exact hst.out
          rw [he2]
          clear he2 hst
          have T0 := s0.setRow (dC (pN n e2))
          have T1 := s1.setRowOther (show ¬ gx = gx + 1 by omega) (dC (pN n e2))
          have T2 := s2.setRowOther (show ¬ w.heap.size + 1 = gx + 1 by omega) (dC (pN n e2))
          have T3 := s3.chg (Chg.of (gb_setRow (k := gx + 1) (gb_refl _ _) (dC (pN n e2)))) (by simp; omega)
          have T4 := s4.setRowNew (show w.heap.size ≤ gx + 1 by omega) (dC (pN n e2))
          have cb := T3.cell i hin
          rcases Nat.mod_two_eq_zero_or_one (b i / 2 ^ q) with hz | hz
          · rw [hz] at hbit
            have HZ : Hid (b i / 2 ^ q % 2 = 0) := hz
            clear hz
            go_wp2_with (refine wpList_store_row rfl 190 _ _ rfl (gx + 1) _ rfl rfl 190 _ s0 (by rw [dC_size]; exact NumInfo) (by rw [dC_size, dC_size]) (dC_one _) ?_)
            exact ⟨⟨q, by omega, by go_num, by rw [hst2.out, HZ.out]; exact T0, T1, T2, T3, T4⟩, by simp [intOf]⟩
          · rw [hz] at hbit
            have HZ : Hid (b i / 2 ^ q % 2 = 1) := hz
            clear hz
            go_wp2_with (first | (refine wpList_store_row rfl 190 _ _ rfl (gx + 1) _ rfl rfl 190 _ s0 (by rw [dC_size]; exact NumInfo) (by rw [dC_size, dC_size]) (dC_one _) ?_) | (refine wpList_load_row rfl 190 _ rfl (gx + 1) rfl 190 _ (0, 0) _ T0 Tryz.underlying190 rfl (by first | exact NumInfo | (rw [dC_size]; exact NumInfo)) ?_) | (refine wpList_load_row rfl 190 _ rfl gx rfl 190 _ (0, 0) _ T1 Tryz.underlying190 rfl (by first | exact NumInfo | (rw [dC_size]; exact NumInfo)) ?_))
            refine (mul_p _ _ (pN_lt _ _) lX _).mono ?_
            rintro e v4 ⟨rfl, k⟩
            rw [← HX.out, pN_inc]
            rw [HX.out]
            replace T0 := T0.chg k (by simp)
            replace T1 := T1.chg k (by simp)
            replace T2 := T2.chg k (by simp)
            replace T3 := T3.chg k (by simp)
            replace T4 := T4.trans1 k
            clear k cb s0 s1 s2 s3 s4
            go_wp2_with (refine wpList_store_row rfl 190 _ _ rfl (gx + 1) _ rfl rfl 190 _ T0 (by rw [dC_size]; exact NumInfo) (by rw [dC_size, dC_size]) (dC_one _) ?_)
            exact ⟨⟨q, by omega, by go_num, by rw [hst2.out, HZ.out]; exact T0.setRow _, T1.setRowOther (by omega) _, T2.setRowOther (by omega) _, T3.chg (Chg.of (gb_setRow (k := gx + 1) (gb_refl _ _) _)) (by simp; omega), T4.setRowNew (by omega) _⟩, by simp [intOf]⟩
end Go.Proofs.YtoafcaieifjoiaaGreat

/- rimeref02.Power of nil and of bytes; the two ways' answers are the same. -/
namespace Go.Proofs.YtoafcaieifjoiaaGreat
open Go.RowKit N

set_option maxHeartbeats 16000000 in
set_option maxRecDepth 100000 in
theorem Power_rnil (n : Nat) (hn : n < 115792089237316195423570985008687907853269984665640564039457584007913129639936) (w : World) :
    Calls Tryz.prog 129 #[fe (n : Int), .slice none 0 0] w fun e w' => e = .returned (fe ((pN n 0 : Nat) : Int)) ∧ Chg w w' [] := by
  have F0 : Blk ((w.alloc (.cells (feC (n : Int)) 24)).alloc (.cells z32 24)) w.heap.size (feC (n : Int)) 24 := (Blk.new w (feC (n : Int)) 24).alloc _
  have F1 : Blk ((w.alloc (.cells (feC (n : Int)) 24)).alloc (.cells z32 24)) (w.heap.size + 1) z32 24 := by have h := Blk.new (w.alloc (.cells (feC (n : Int)) 24)) z32 24; simpa using h
  have CC : Chg w ((w.alloc (.cells (feC (n : Int)) 24)).alloc (.cells z32 24)) [] := ((Chg.refl w []).alloc _).alloc _
  obtain ⟨X, hX⟩ : ∃ X, n % LN = X := ⟨_, rfl⟩
  have lX : X < 115792089237316195423570985008687907853269984665640564039457584007913129639936 := by rw [← hX]; exact modL_lt n
  have HX : Hid (n % LN = X) := hX
  clear hX
  go_enter Tryz.func129, Tryz.ntmps129
  go_wp2_with (refine wpList_load_row rfl 24 _ rfl w.heap.size rfl 24 _ (0, 0) _ F0 Tryz.underlying24 rfl feInfo ?_)
  refine (Value_r n hn _).mono ?_
  rintro e v1 ⟨rfl, k⟩
  rw [HX.out]
  have sz1 : w.heap.size + 1 < v1.heap.size := (F1.chg k (by simp)).lt
  have A := Blk.new v1 z8u 190
  have D : Blk (((v1.alloc (.cells z8u 190)).setRow v1.heap.size (dC X)).alloc (.cells z8u 190)) (v1.heap.size + 1) z8u 190 := by have h := Blk.new ((v1.alloc (.cells z8u 190)).setRow v1.heap.size (dC X)) z8u 190; simpa using h
  have KS : Chg v1 ((((v1.alloc (.cells z8u 190)).setRow v1.heap.size (dC X)).alloc (.cells z8u 190)).setRow (v1.heap.size + 1) (dC 1)) [] := ((((Chg.refl v1 []).alloc (.cells z8u 190)).setRowNew (Nat.le_refl _) (dC X)).alloc (.cells z8u 190)).setRowNew (by omega) (dC 1)
  have A' : Blk ((((v1.alloc (.cells z8u 190)).setRow v1.heap.size (dC X)).alloc (.cells z8u 190)).setRow (v1.heap.size + 1) (dC 1)) v1.heap.size (dC X) 190 := ((A.setRow _).alloc _).setRowOther (by omega) _
  have D' : Blk ((((v1.alloc (.cells z8u 190)).setRow v1.heap.size (dC X)).alloc (.cells z8u 190)).setRow (v1.heap.size + 1) (dC 1)) (v1.heap.size + 1) (dC 1) 190 := D.setRow _
  replace F1 := (F1.chg k (by simp)).chg KS (by simp)
  replace CC := (CC.trans1 k).trans1 KS
  clear F0 k KS
  go_wp2_with (first | (refine wpList_store_row rfl 190 _ _ rfl v1.heap.size _ rfl rfl 190 _ A NumInfo rfl (dC_one _) ?_) | (refine gl_build (by rfl) 190 #[(0, .const (.int .u32 1))] rfl (dC 1) (by kernel_rfl) ?_) | (refine wpList_store_row rfl 190 _ _ rfl (v1.heap.size + 1) _ rfl rfl 190 _ D NumInfo rfl (dC_one _) ?_))
  clear A D
  generalize hv2 : ((((v1.alloc (.cells z8u 190)).setRow v1.heap.size (dC X)).alloc (.cells z8u 190)).setRow (v1.heap.size + 1) (dC 1)) = v2 at F1 A' D' CC
  try (change Code.wp _ _ _ _ ((((v1.alloc (.cells z8u 190)).setRow v1.heap.size (dC X)).alloc (.cells z8u 190)).setRow (v1.heap.size + 1) (dC 1)); rw [hv2])
  clear hv2
  generalize v1.heap.size = gx at *
  rw [← pN_zero n] at D'
  go_loopw [7] (fun t wr => t = .int .i64 (-1) ∧ Blk wr (gx + 1) (dC (pN n 0)) 190 ∧ Blk wr (w.heap.size + 1) z32 24 ∧ Chg w wr []) (fun t _ => 0)
  case atStart => exact ⟨rfl, D', F1, CC⟩
  case round =>
    obtain ⟨rfl, r0, r2, r4⟩ := hrel
    clear A' D' F1 CC
    go_wp2_with (refine wpList_load_row rfl 190 _ rfl (gx + 1) rfl 190 _ (0, 0) _ r0 Tryz.underlying190 rfl (by first | exact NumInfo | (rw [dC_size]; exact NumInfo)) ?_)
    refine (Back_r _ _).mono ?_
    rintro e v3 ⟨rfl, k⟩
    replace r2 := r2.chg k (by simp)
    replace r4 := r4.trans1 k
    go_wp2_with (refine wpList_store_row rfl 24 _ _ rfl (w.heap.size + 1) _ rfl rfl 24 _ r2 feInfo rfl (feC_one _) ?_)
    exact bodyPost_ret (results_cell_row Tryz.results129 _ _ (w.heap.size + 1) 24 (feC ((pN n 0 : Nat) : Int)) (0, 0) _ rfl (Blk.setRow r2 _) Tryz.underlying24 rfl feInfo) rfl ⟨rfl, r4.setRowNew (by omega) _⟩

theorem Power_rs (m : Nat) (hm : m < 115792089237316195423570985008687907853269984665640564039457584007913129639936) (v : Value) (n : Nat) (f : Nat → Nat) (hn : n ≤ 140737488355328) (w : World) (hS : Sl w v n f) :
    Calls Tryz.prog 129 #[fe (m : Int), v] w fun e w' => e = .returned (fe ((pN m (nb f 0 n) : Nat) : Int)) ∧ Chg w w' [] := by
  rcases hS with ⟨rfl, rfl⟩ | ⟨g, o, cap, rfl, _, _, hb⟩
  · exact Power_rnil m hm w
  · exact Power_r m hm g o n cap f hn w hb
theorem pI (n e : Nat) : ((pN n e : Nat) : Int) = pw (n : Int) e := by unfold pN pw; rw [Int.natCast_emod, Int.natCast_pow, LN_eq]
end Go.Proofs.YtoafcaieifjoiaaGreat

/- rimeref02.Less of 2, rimeref02.Invert. -/
namespace Go.Proofs.YtoafcaieifjoiaaGreat
open Go.RowKit N

/-- L less 2. -/
def LM2 : Int := 7237005577332262213973186563042994240857116359379907606001950938285454250987
theorem LM2_eq : ((LN - 2 : Nat) : Int) = LM2 := by unfold LN LM2; decide
theorem LM2_nb : nb (bof LM2) 0 32 = 7237005577332262213973186563042994240857116359379907606001950938285454250987 := by decide +kernel
theorem iv_pw (a : Int) : pw a 7237005577332262213973186563042994240857116359379907606001950938285454250987 = iv a := by unfold iv; exact Eq.refl _
theorem two_dC : #[Value.int .u32 2, .int .u32 0, .int .u32 0, .int .u32 0, .int .u32 0, .int .u32 0, .int .u32 0, .int .u32 0] = dC 2 := by kernel_rfl
set_option maxHeartbeats 8000000 in
set_option maxRecDepth 100000 in
theorem Less2_r (w : World) : Calls Tryz.prog 130 #[.int .u32 2] w fun e w' => ∃ g, e = .returned (.slice (some ⟨g, 0, none⟩) 32 32) ∧ Blk w' g (feC LM2) 24 ∧ Chg w w' [] := by
  have hO := Order_r
  have HM : Hid (∀ w, Calls Tryz.prog 139 #[.agg (dC LN), .agg (dC 2)] w fun e w' => e = .returned (.agg (dC (LN - 2))) ∧ Chg w w' []) := fun w => minus_r LN 2 (by unfold LN; decide) w
  have HB : Hid (∀ w, Calls Tryz.prog 111 #[.agg (dC (LN - 2))] w fun e w' => e = .returned (fe LM2) ∧ Chg w w' []) := fun w => by have h := Back_r (LN - 2) w; rw [LM2_eq] at h; exact h
  obtain ⟨X, hX⟩ : ∃ X, LM2 = X := ⟨_, rfl⟩
  rw [hX] at HB
  rw [hX]
  obtain ⟨A, hA⟩ : ∃ A, dC LN = A := ⟨_, rfl⟩
  obtain ⟨B, hB⟩ : ∃ B, dC (LN - 2) = B := ⟨_, rfl⟩
  rw [hA] at HM hO
  rw [hB] at HM HB
  clear hX hA hB
  go_enter Tryz.func130, Tryz.ntmps130
  go_wp2_with fail
  refine (hO _).mono ?_
  rintro e v1 ⟨rfl, k1⟩
  go_wp2_with fail
  rw [two_dC]
  refine (HM.out _).mono ?_
  rintro e v2 ⟨rfl, k2⟩
  go_wp2_with fail
  refine (HB.out _).mono ?_
  rintro e v3 ⟨rfl, k3⟩
  have F := Blk.new v3 z32 24
  have CC : Chg w ((v3.alloc (.cells z32 24)).setRow v3.heap.size (feC X)) [] := (((k1.trans1 k2).trans1 k3).alloc _).setRowNew ((k1.trans1 k2).trans1 k3).size _
  go_wp2_with (refine wpList_store_row rfl 24 _ _ rfl v3.heap.size (feC X) rfl rfl 24 _ F feInfo rfl (feC_one _) ?_)
  go_ret
  exact ⟨_, rfl, F.setRow (feC X), CC⟩
/-- What Less answers, and Power by it. -/
theorem less_pow (m : Nat) (hm : m < 115792089237316195423570985008687907853269984665640564039457584007913129639936) : ∃ lf : Nat → Nat,
    (∀ w, Calls Tryz.prog 130 #[.int .u32 2] w fun e w' => ∃ g, e = .returned (.slice (some ⟨g, 0, none⟩) 32 32) ∧ Sl w' (.slice (some ⟨g, 0, none⟩) 32 32) 32 lf ∧ Chg w w' []) ∧
    (∀ w v, Sl w v 32 lf → Calls Tryz.prog 129 #[fe (m : Int), v] w fun e w' => e = .returned (fe (iv (m : Int))) ∧ Chg w w' []) := by
  refine ⟨bof LM2, fun w => (Less2_r w).mono ?_, fun w v hv => ?_⟩
  · rintro e w' ⟨g, he, hB, k⟩
    exact ⟨g, he, Or.inr ⟨g, 0, 32, rfl, Nat.le_refl _, by decide, Bs.ofFe hB⟩, k⟩
  · have h := Power_rs m hm v 32 (bof LM2) (by decide) w hv
    rw [LM2_nb, pI, iv_pw] at h
    exact h
set_option maxHeartbeats 8000000 in
set_option maxRecDepth 100000 in
theorem Invert_rnot (m : Nat) (hm : m < 115792089237316195423570985008687907853269984665640564039457584007913129639936) (h : eqn (cn (m : Int)) 0 = false) (w : World) :
    Calls Tryz.prog 104 #[fe (m : Int)] w fun e w' => e = .returned (.tuple #[fe (iv (m : Int)), .int .i64 0]) ∧ Chg w w' [] := by
  have ra : R256 (m : Int) := ⟨by omega, by omega⟩
  obtain ⟨lf, hl, hp⟩ := less_pow m hm
  have HL : Hid (∀ w, Calls Tryz.prog 130 #[.int .u32 2] w fun e w' => ∃ g, e = .returned (.slice (some ⟨g, 0, none⟩) 32 32) ∧ Sl w' (.slice (some ⟨g, 0, none⟩) 32 32) 32 lf ∧ Chg w w' []) := hl
  have HP : Hid (∀ w v, Sl w v 32 lf → Calls Tryz.prog 129 #[fe (m : Int), v] w fun e w' => e = .returned (fe (iv (m : Int))) ∧ Chg w w' []) := hp
  have HZ : Hid (∀ w, Calls Tryz.prog 91 #[fe (m : Int)] w fun e w' => e = .returned (.bool false) ∧ Chg w w' []) := fun w => IsZero_q (m : Int) ra false h w
  obtain ⟨T, hT⟩ : ∃ T, iv (m : Int) = T := ⟨_, rfl⟩
  obtain ⟨A, hA⟩ : ∃ A, (m : Int) = A := ⟨_, rfl⟩
  rw [hT, hA] at HP
  rw [hA] at HZ
  rw [hT, hA]
  clear hl hp h hT hA ra
  have HB : Hid (w.heap.size < w.heap.size + 1) := by show w.heap.size < w.heap.size + 1; omega
  have F0 : Blk ((w.alloc (.cells (feC A) 24)).alloc (.cells z32 24)) w.heap.size (feC A) 24 := (Blk.new w (feC A) 24).alloc _
  have F1 : Blk ((w.alloc (.cells (feC A) 24)).alloc (.cells z32 24)) (w.heap.size + 1) z32 24 := by have h := Blk.new (w.alloc (.cells (feC A) 24)) z32 24; simpa using h
  have CC : Chg w ((w.alloc (.cells (feC A) 24)).alloc (.cells z32 24)) [] := ((Chg.refl w []).alloc _).alloc _
  go_enter Tryz.func104, Tryz.ntmps104
  go_wp2_with (refine wpList_load_row rfl 24 _ rfl w.heap.size rfl 24 _ (0, 0) _ F0 Tryz.underlying24 rfl feInfo ?_)
  refine (HZ.out _).mono ?_
  rintro e y ⟨rfl, k⟩
  replace F0 := F0.chg k (by simp)
  replace F1 := F1.chg k (by simp)
  replace CC := CC.trans1 k
  clear k HZ
  generalize w.heap.size + 1 = g2 at *
  generalize hg1 : w.heap.size = g1 at *
  go_wp2_with fail
  refine wp_region_held_drew (S := fun w' => Chg y w' [g2] ∧ Blk w' g1 (feC A) 24) (by kernel_rfl) ⟨(Chg.refl y _).drew, F0.drew⟩ (fun hHeld => ?_)
  refine take_load 0 (some 7) (feC A) rfl (by kernel_rfl) (by kernel_rfl) (by kernel_rfl) (fun _ _ _ h => h) rfl rfl 24 (.tmp 1) rfl g1 rfl 24 _ (fun w hSw => hSw.2) Tryz.underlying24 rfl feInfo hHeld ?_
  try simp only [Act.put, sA1, sA2, sA3]
  refine wpAnyH_ready (rs := [1]) (by kernel_rfl) (by simp) ?_
  refine AllReadyH.cons (o := _) rfl (fun K hK => ?_) ?_
  ·
    go_simp
    refine (HL.out _).mono ?_
    rintro e x1 ⟨gl, rfl, SL, k⟩
    go_wp2_with fail
    replace F1 := F1.drew.chg k (by simp)
    replace CC := CC.drew.trans1 k
    refine hK.out _ _ ⟨hHeld.1.trans1 k.wide, hHeld.2.chg k (by simp)⟩ (fun hHeld => ?_)
    clear hK K k HL
    try simp only [Act.put, sA1, sA2, sA3]
    refine wpAnyH_ready (rs := [2]) (by kernel_rfl) (by simp) ?_
    refine AllReadyH.cons (o := _) rfl (fun K hK => ?_) ?_
    ·
      go_simp
      refine (HP.out _ _ SL).mono ?_
      rintro e x2 ⟨rfl, k⟩
      go_wp2_with fail
      replace F1 := F1.chg k (by simp)
      replace CC := CC.trans1 k
      refine hK.out _ _ ⟨hHeld.1.trans1 k.wide, hHeld.2.chg k (by simp)⟩ (fun hHeld => ?_)
      clear hK K k HP
      try simp only [Act.put, sA1, sA2, sA3]
      refine wpAnyH_ready (rs := [3]) (by kernel_rfl) (by simp) ?_
      refine AllReadyH.cons (o := _) rfl (fun K hK => ?_) ?_
      ·
        rw [if_pos (by rfl)]
        refine wp_store_row 24 _ _ rfl g2 _ rfl rfl 24 _ F1 feInfo rfl (feC_one _) ?_
        have hS : Chg y (x2.setRow g2 (feC T)) [g2] := hHeld.1.trans1 (Chg.of (gb_setRow (gb_refl _ _) _))
        refine hK.out _ _ ⟨hS, F0.chg hS (by have := HB.out; simp; omega)⟩ (fun hHeld => ?_)
        clear hK K
        try simp only [Act.put, sA1, sA2, sA3]
        refine tv (v := ?_) 4 (some 3) rfl (by kernel_rfl) (fun _ _ _ h => h) rfl rfl (fun w hSw => ?_) hHeld ?_; rotate_left; (· (go_simp; try with_reducible rfl)); try simp only [Act.put, sA1, sA2, sA3]
        refine wpAnyH_done (by kernel_rfl) ?_ _
        go_wp2_with fail
        exact bodyPost_ret (results_cell_tmp Tryz.results104 _ _ g2 24 (feC T) _ _ rfl rfl (Blk.setRow F1 _) Tryz.underlying24 rfl feInfo) rfl ⟨rfl, CC.setRowNew (by have := HB.out; omega) _⟩
      exact AllReadyH.nil
    exact AllReadyH.nil
  exact AllReadyH.nil
end Go.Proofs.YtoafcaieifjoiaaGreat
