/- rimeref02.Power. -/
import Derived.Test.YtcdgkhejbdlapaaRCmp
set_option linter.unusedVariables false
set_option linter.unusedSimpArgs false
set_option linter.unnecessarySimpa false
namespace Go.Proofs.Ytcdgkhejbdlapaa
open Go.RowKit N

/-- x to the power e, modulo the order. -/
def pN (x e : Nat) : Nat := x ^ e % LN
theorem pN_lt (x e : Nat) : pN x e < 115792089237316195423570985008687907853269984665640564039457584007913129639936 := modL_lt _
theorem pN_zero (x : Nat) : pN x 0 = 1 := by unfold pN LN; rw [Nat.pow_zero]
theorem pN_dbl (x e : Nat) : mlP (pN x e) (pN x e) = pN x (2 * e) := by unfold mlP pN; rw [← Nat.mul_mod, ← Nat.pow_add, Nat.two_mul]
theorem pN_inc (x e : Nat) : mlP (pN x e) (x % LN) = pN x (e + 1) := by unfold mlP pN; rw [← Nat.mul_mod, Nat.pow_succ]
theorem bit8 (x k : Nat) (hx : x < 256) : bits .and .u8 ((x : Int) / 2 ^ k) 1 = ((x / 2 ^ k % 2 : Nat) : Int) := by
  have e : (x : Int) / 2 ^ k = ((x / 2 ^ k : Nat) : Int) := by rw [Int.natCast_ediv, Int.natCast_pow]; rfl
  have hl : x / 2 ^ k ≤ x := Nat.div_le_self _ _
  rw [e]
  have h := u8_and_nat (x / 2 ^ k) 1 (by omega) (by omega)
  rw [nat_mask1] at h
  exact h
theorem bit_step8 (E x j : Nat) (hj : j < 8) : E * 2 ^ (8 - j) + x / 2 ^ j = 2 * (E * 2 ^ (8 - (j + 1)) + x / 2 ^ (j + 1)) + x / 2 ^ j % 2 := by
  have e1 : 8 - j = (8 - (j + 1)) + 1 := by omega
  rw [e1, Nat.pow_succ 2 (8 - (j + 1)), Nat.pow_succ 2 j, ← Nat.div_div_eq_div_mul, ← Nat.mul_assoc]
  omega

set_option maxHeartbeats 4000000 in
set_option maxRecDepth 100000 in
theorem Power_r (n : Nat) (hn : n < 115792089237316195423570985008687907853269984665640564039457584007913129639936) (g o len cap : Nat) (b : Nat → Nat) (hlen : len ≤ 140737488355328) (w : World) (hB : Bs w g o len b) :
    Calls Try.prog 42 #[fe (n : Int), .slice (some ⟨g, o, none⟩) len cap] w fun e w' => e = .returned (fe ((pN n (nb b 0 len) : Nat) : Int)) ∧ Chg w w' [] := by
  have hg := hB.lt
  have hbd := hB.bd
  have F0 : Blk ((w.alloc (.cells (feC (n : Int)) 24)).alloc (.cells z32 24)) w.heap.size (feC (n : Int)) 24 := (Blk.new w (feC (n : Int)) 24).alloc _
  have F1 : Blk ((w.alloc (.cells (feC (n : Int)) 24)).alloc (.cells z32 24)) (w.heap.size + 1) z32 24 := by have h := Blk.new (w.alloc (.cells (feC (n : Int)) 24)) z32 24; simpa using h
  have CC : Chg w ((w.alloc (.cells (feC (n : Int)) 24)).alloc (.cells z32 24)) [] := ((Chg.refl w []).alloc _).alloc _
  replace hB := hB.chg CC (by simp)
  obtain ⟨X, hX⟩ : ∃ X, n % LN = X := ⟨_, rfl⟩
  have lX : X < 115792089237316195423570985008687907853269984665640564039457584007913129639936 := by rw [← hX]; exact modL_lt n
  have HX : Hid (n % LN = X) := hX
  clear hX
  go_enter Try.func42, Try.ntmps42
  go_wp2_with (refine wpList_load_row rfl 24 _ rfl w.heap.size rfl 24 _ (0, 0) _ F0 Try.underlying24 rfl feInfo ?_)
  refine (Value_r n hn _).mono ?_
  rintro e v1 ⟨rfl, k⟩
  rw [HX.out]
  have sz1 : w.heap.size + 1 < v1.heap.size := (F1.chg k (by simp)).lt
  replace hB := hB.chg k (by simp)
  have A := Blk.new v1 z8u 97
  have D : Blk (((v1.alloc (.cells z8u 97)).setRow v1.heap.size (dC X)).alloc (.cells z8u 97)) (v1.heap.size + 1) z8u 97 := by have h := Blk.new ((v1.alloc (.cells z8u 97)).setRow v1.heap.size (dC X)) z8u 97; simpa using h
  have KS : Chg v1 ((((v1.alloc (.cells z8u 97)).setRow v1.heap.size (dC X)).alloc (.cells z8u 97)).setRow (v1.heap.size + 1) (dC 1)) [] := ((((Chg.refl v1 []).alloc (.cells z8u 97)).setRowNew (Nat.le_refl _) (dC X)).alloc (.cells z8u 97)).setRowNew (by omega) (dC 1)
  have A' : Blk ((((v1.alloc (.cells z8u 97)).setRow v1.heap.size (dC X)).alloc (.cells z8u 97)).setRow (v1.heap.size + 1) (dC 1)) v1.heap.size (dC X) 97 := ((A.setRow _).alloc _).setRowOther (by omega) _
  have D' : Blk ((((v1.alloc (.cells z8u 97)).setRow v1.heap.size (dC X)).alloc (.cells z8u 97)).setRow (v1.heap.size + 1) (dC 1)) (v1.heap.size + 1) (dC 1) 97 := D.setRow _
  replace F1 := (F1.chg k (by simp)).chg KS (by simp)
  replace hB := hB.chg KS (by simp)
  replace CC := (CC.trans1 k).trans1 KS
  clear F0 k KS
  go_wp2_with (first | (refine wpList_store_row rfl 97 _ _ rfl v1.heap.size _ rfl rfl 97 _ A NumInfo rfl (dC_one _) ?_) | (refine gl_build (by rfl) 97 #[(0, .const (.int .u32 1))] rfl (dC 1) (by kernel_rfl) ?_) | (refine wpList_store_row rfl 97 _ _ rfl (v1.heap.size + 1) _ rfl rfl 97 _ D NumInfo rfl (dC_one _) ?_))
  clear A D
  generalize hv2 : ((((v1.alloc (.cells z8u 97)).setRow v1.heap.size (dC X)).alloc (.cells z8u 97)).setRow (v1.heap.size + 1) (dC 1)) = v2 at F1 A' D' CC hB
  try (change Code.wp _ _ _ _ ((((v1.alloc (.cells z8u 97)).setRow v1.heap.size (dC X)).alloc (.cells z8u 97)).setRow (v1.heap.size + 1) (dC 1)); rw [hv2])
  clear hv2
  generalize v1.heap.size = gx at *
  go_loopw [7] (fun t wr => ∃ k : Nat, k ≤ len ∧ t = .int .i64 ((k : Int) - 1) ∧ Blk wr (gx + 1) (dC (pN n (nb b k (len - k)))) 97 ∧ Blk wr gx (dC X) 97 ∧ Blk wr (w.heap.size + 1) z32 24 ∧ Bs wr g o len b ∧ Chg w wr []) (fun t _ => (intOf t + 1).toNat)
  case atStart => exact ⟨len, Nat.le_refl _, rfl, by rw [Nat.sub_self]; show Blk v2 (gx + 1) (dC (pN n 0)) 97; rw [pN_zero]; exact D', A', F1, hB, CC⟩
  case round =>
    obtain ⟨k, hk, rfl, r0, r1, r2, r3, r4⟩ := hrel
    clear A' D' F1 hB CC
    by_cases hk0 : k = 0
    · subst hk0
      have hneg : ¬ (0 : Int) ≤ ((0 : Nat) : Int) - 1 := by omega
      rw [Nat.sub_zero] at r0
      go_wp2_with (refine wpList_load_row rfl 97 _ rfl (gx + 1) rfl 97 _ (0, 0) _ r0 Try.underlying97 rfl (by first | exact NumInfo | (rw [dC_size]; exact NumInfo)) ?_)
      refine (Back_r _ _).mono ?_
      rintro e v3 ⟨rfl, k⟩
      replace r2 := r2.chg k (by simp)
      replace r4 := r4.trans1 k
      go_wp2_with (refine wpList_store_row rfl 24 _ _ rfl (w.heap.size + 1) _ rfl rfl 24 _ r2 feInfo rfl (feC_one _) ?_)
      exact bodyPost_ret (results_cell_row Try.results42 _ _ (w.heap.size + 1) 24 (feC ((pN n (nb b 0 len) : Nat) : Int)) (0, 0) _ rfl (Blk.setRow r2 _) Try.underlying24 rfl feInfo) rfl ⟨rfl, r4.setRowNew (by omega) _⟩
    · obtain ⟨i, rfl⟩ : ∃ i, k = i + 1 := ⟨k - 1, by omega⟩
      have e1 : (((i + 1 : Nat) : Int) - 1) = (i : Int) := by omega
      rw [e1]
      clear e1 hk0
      have hin : i < len := by omega
      have hI0 : (0 : Int) ≤ (i : Int) := by omega
      have hIn : (i : Int) < (len : Int) := by omega
      have hx := hbd i hin
      have HE : Hid (nb b i (len - i) = nb b (i + 1) (len - (i + 1)) * 2 ^ (8 - 0) + b i / 2 ^ 0) := by
        show nb b i (len - i) = nb b (i + 1) (len - (i + 1)) * 2 ^ (8 - 0) + b i / 2 ^ 0
        rw [show len - i = (len - (i + 1)) + 1 by omega, nb_succ, Nat.pow_zero, Nat.div_one]
        omega
      generalize nb b (i + 1) (len - (i + 1)) = E at *
      go_wp2_with fail
      go_loopw [8] (fun t wr => ∃ j : Nat, j ≤ 8 ∧ t = .int .i64 ((j : Int) - 1) ∧ Blk wr (gx + 1) (dC (pN n (E * 2 ^ (8 - j) + b i / 2 ^ j))) 97 ∧ Blk wr gx (dC X) 97 ∧ Blk wr (w.heap.size + 1) z32 24 ∧ Bs wr g o len b ∧ Chg w wr []) (fun t _ => (intOf t + 1).toNat)
      case atStart => exact ⟨8, by omega, rfl, by rw [Nat.sub_self, Nat.pow_zero, Nat.mul_one, Nat.div_eq_of_lt (by omega), Nat.add_zero]; exact r0, r1, r2, r3, r4⟩
      case round =>
        obtain ⟨j, hj, rfl, s0, s1, s2, s3, s4⟩ := hrel
        clear r0 r1 r2 r3 r4
        by_cases hj0 : j = 0
        · subst hj0
          have hneg : ¬ (0 : Int) ≤ ((0 : Nat) : Int) - 1 := by omega
          go_wp2_with fail
          exact ⟨⟨i, by omega, by go_num, by rw [HE.out]; exact s0, s1, s2, s3, s4⟩, by simp [intOf]⟩
        · obtain ⟨q, rfl⟩ : ∃ q, j = q + 1 := ⟨j - 1, by omega⟩
          have e1 : (((q + 1 : Nat) : Int) - 1) = (q : Int) := by omega
          rw [e1]
          clear e1 hj0
          have hq0 : (0 : Int) ≤ (q : Int) := by omega
          have hst : Hid (E * 2 ^ (8 - q) + b i / 2 ^ q = 2 * (E * 2 ^ (8 - (q + 1)) + b i / 2 ^ (q + 1)) + b i / 2 ^ q % 2) := bit_step8 E (b i) q (by omega)
          have hbit := bit8 (b i) q hx
          generalize E * 2 ^ (8 - (q + 1)) + b i / 2 ^ (q + 1) = E1 at s0 hst
          have hw : IntKind.u64.wrap ((q : Nat) : Int) = ((q : Nat) : Int) := by rw [IntKind.wrap_u64]; omega
          have hmi : min q 8 = q := by omega
          go_wp2_with (refine wpList_load_row rfl 97 _ rfl (gx + 1) rfl 97 _ (0, 0) _ s0 Try.underlying97 rfl (by first | exact NumInfo | (rw [dC_size]; exact NumInfo)) ?_)
          refine (mul_p _ _ (pN_lt _ _) (pN_lt _ _) _).mono ?_
          rintro e v3 ⟨rfl, k⟩
          rw [pN_dbl]
          replace s0 := s0.chg k (by simp)
          replace s1 := s1.chg k (by simp)
          replace s2 := s2.chg k (by simp)
          replace s3 := s3.chg k (by simp)
          replace s4 := s4.trans1 k
          clear k
          obtain ⟨e2, he2⟩ : ∃ e2, 2 * E1 = e2 := ⟨_, rfl⟩
          have hst2 : Hid (E * 2 ^ (8 - q) + b i / 2 ^ q = e2 + b i / 2 ^ q % 2) := by show E * 2 ^ (8 - q) + b i / 2 ^ q = e2 + b i / 2 ^ q % 2; rw [← he2]; exact hst.out
          rw [he2]
          clear he2 hst
          have T0 := s0.setRow (dC (pN n e2))
          have T1 := s1.setRowOther (show ¬ gx = gx + 1 by omega) (dC (pN n e2))
          have T2 := s2.setRowOther (show ¬ w.heap.size + 1 = gx + 1 by omega) (dC (pN n e2))
          have T3 := s3.chg (Chg.of (gb_setRow (k := gx + 1) (gb_refl _ _) (dC (pN n e2)))) (by simp; omega)
          have T4 := s4.setRowNew (show w.heap.size ≤ gx + 1 by omega) (dC (pN n e2))
          have cb := T3.cell i hin
          rcases Nat.mod_two_eq_zero_or_one (b i / 2 ^ q) with hz | hz
          · rw [hz] at hbit
            have HZ : Hid (b i / 2 ^ q % 2 = 0) := hz
            clear hz
            go_wp2_with (refine wpList_store_row rfl 97 _ _ rfl (gx + 1) _ rfl rfl 97 _ s0 (by rw [dC_size]; exact NumInfo) (by rw [dC_size, dC_size]) (dC_one _) ?_)
            exact ⟨⟨q, by omega, by go_num, by rw [hst2.out, HZ.out]; exact T0, T1, T2, T3, T4⟩, by simp [intOf]⟩
          · rw [hz] at hbit
            have HZ : Hid (b i / 2 ^ q % 2 = 1) := hz
            clear hz
            go_wp2_with (first | (refine wpList_store_row rfl 97 _ _ rfl (gx + 1) _ rfl rfl 97 _ s0 (by rw [dC_size]; exact NumInfo) (by rw [dC_size, dC_size]) (dC_one _) ?_) | (refine wpList_load_row rfl 97 _ rfl (gx + 1) rfl 97 _ (0, 0) _ T0 Try.underlying97 rfl (by first | exact NumInfo | (rw [dC_size]; exact NumInfo)) ?_) | (refine wpList_load_row rfl 97 _ rfl gx rfl 97 _ (0, 0) _ T1 Try.underlying97 rfl (by first | exact NumInfo | (rw [dC_size]; exact NumInfo)) ?_))
            refine (mul_p _ _ (pN_lt _ _) lX _).mono ?_
            rintro e v4 ⟨rfl, k⟩
            rw [← HX.out, pN_inc]
            rw [HX.out]
            replace T0 := T0.chg k (by simp)
            replace T1 := T1.chg k (by simp)
            replace T2 := T2.chg k (by simp)
            replace T3 := T3.chg k (by simp)
            replace T4 := T4.trans1 k
            clear k cb s0 s1 s2 s3 s4
            go_wp2_with (refine wpList_store_row rfl 97 _ _ rfl (gx + 1) _ rfl rfl 97 _ T0 (by rw [dC_size]; exact NumInfo) (by rw [dC_size, dC_size]) (dC_one _) ?_)
            exact ⟨⟨q, by omega, by go_num, by rw [hst2.out, HZ.out]; exact T0.setRow _, T1.setRowOther (by omega) _, T2.setRowOther (by omega) _, T3.chg (Chg.of (gb_setRow (k := gx + 1) (gb_refl _ _) _)) (by simp; omega), T4.setRowNew (by omega) _⟩, by simp [intOf]⟩
end Go.Proofs.Ytcdgkhejbdlapaa
