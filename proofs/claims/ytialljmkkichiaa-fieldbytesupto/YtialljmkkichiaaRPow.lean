/- rimeref01.power: x to a number of bytes. -/
import Derived.Test.YtialljmkkichiaaRFun
import Derived.Test.YtialljmkkichiaaPower
set_option linter.unusedVariables false
set_option linter.unusedSimpArgs false
set_option linter.unnecessarySimpa false
namespace Go.Proofs.Ytialljmkkichiaa
open Go.RowKit N

/-- x to the power k, modulo the prime. -/
def pwP (x k : Nat) : Nat := x ^ k % PM
theorem pwP_zero (x : Nat) : pwP x 0 = 1 := by unfold pwP; rw [Nat.pow_zero]; unfold PM; decide
theorem pwP_lt (x k : Nat) : pwP x k < PM := Nat.mod_lt _ (by unfold PM; decide)
theorem lt_256 (n : Nat) (h : n < PM) : n < 115792089237316195423570985008687907853269984665640564039457584007913129639936 := by unfold PM at h; omega
theorem pwP_dbl (x e : Nat) : mlP (pwP x e) (pwP x e) = pwP x (2 * e) := by
  unfold mlP pwP
  rw [← Nat.mul_mod, ← Nat.pow_add, show e + e = 2 * e by omega]
theorem pwP_inc (x e : Nat) : mlP (pwP x e) x = pwP x (e + 1) := by
  unfold mlP pwP
  rw [Nat.mod_mul_mod, Nat.pow_succ]
/-- One, in sixteen digits. -/
def o16 : Array Value := #[.int .u64 1, .int .u64 0, .int .u64 0, .int .u64 0, .int .u64 0, .int .u64 0, .int .u64 0, .int .u64 0, .int .u64 0, .int .u64 0, .int .u64 0, .int .u64 0, .int .u64 0, .int .u64 0, .int .u64 0, .int .u64 0]
theorem o16_dC : o16 = dC 1 := by kernel_rfl

set_option maxHeartbeats 4000000 in
set_option maxRecDepth 100000 in
theorem power_r (x : Nat) (hx : x < 115792089237316195423570985008687907853269984665640564039457584007913129639936) (g o len cap : Nat) (b : Nat → Nat) (hlen : len ≤ 9223372036854775807) (w : World) (hB : Bs w g o len b) :
    Calls Try.prog 93 #[.agg (dC x), .slice (some ⟨g, o, none⟩) len cap] w fun e w' => e = .returned (.agg (dC (pwP x (nb b 0 len)))) ∧ Chg w w' [] := by
  have hg := hB.lt
  have hbd := hB.bd
  have B0 : Blk (((w.alloc (.cells (dC x) 84)).alloc (.cells z16 84)).alloc (.cells o16 84)) w.heap.size (dC x) 84 := ((Blk.new w (dC x) 84).alloc _).alloc _
  have B1 : Blk (((w.alloc (.cells (dC x) 84)).alloc (.cells z16 84)).alloc (.cells o16 84)) (w.heap.size + 1) z16 84 := by have h := (Blk.new (w.alloc (.cells (dC x) 84)) z16 84).alloc (.cells o16 84); simpa using h
  have B2 : Blk (((w.alloc (.cells (dC x) 84)).alloc (.cells z16 84)).alloc (.cells o16 84)) (w.heap.size + 1 + 1) (dC (pwP x (nb b len (len - len)))) 84 := Blk.to (by have h := Blk.new ((w.alloc (.cells (dC x) 84)).alloc (.cells z16 84)) o16 84; simpa using h) (by
    rw [Nat.sub_self]
    show _ = dC (pwP x 0)
    rw [pwP_zero]
    exact o16_dC)
  have C0 : Chg w (((w.alloc (.cells (dC x) 84)).alloc (.cells z16 84)).alloc (.cells o16 84)) [] := (((Chg.refl w []).alloc _).alloc _).alloc _
  replace hB := hB.chg C0 (by simp)
  go_enter Try.func93, Try.ntmps93
  go_wp2_with fail
  go_loopw [6] (fun t wr => ∃ k : Nat, k ≤ len ∧ t = .int .i64 ((k : Int) - 1) ∧ Blk wr w.heap.size (dC x) 84 ∧ Blk wr (w.heap.size + 1) z16 84 ∧ Blk wr (w.heap.size + 1 + 1) (dC (pwP x (nb b k (len - k)))) 84 ∧ Bs wr g o len b ∧ Chg w wr []) (fun t _ => (intOf t + 1).toNat)
  case atStart => exact ⟨len, Nat.le_refl _, rfl, B0, B1, B2, hB, C0⟩
  case round =>
    obtain ⟨k, hk, rfl, b0, b1, b2, u0, c0⟩ := hrel
    clear B0 B1 B2 C0 hB
    by_cases hk0 : k = 0
    · subst hk0
      rw [Nat.sub_zero] at b2
      have neg1 : ¬ (0 : Int) ≤ ((0 : Nat) : Int) - 1 := by omega
      go_wp2_with (first | (refine wpList_load_row rfl 84 _ rfl (w.heap.size + 1 + 1) rfl 84 _ (0, 0) _ b2 Try.underlying84 rfl (nInfo16 _) ?_) | (refine wpList_store_row rfl 84 _ _ rfl (w.heap.size + 1) _ rfl rfl 84 _ b1 (nInfo16 _) rfl (uC_one _ _) ?_))
      exact bodyPost_ret (results_cell_row Try.results93 _ _ (w.heap.size + 1) 84 (dC (pwP x (nb b 0 len))) (0, 0) _ rfl (Blk.setRow b1 _) Try.underlying84 rfl (nInfo16 _)) rfl ⟨rfl, c0.setRowNew (by omega) _⟩
    · obtain ⟨i, rfl⟩ : ∃ i, k = i + 1 := ⟨k - 1, by omega⟩
      have hbi := hbd i (by omega)
      have e1 : (((i + 1 : Nat) : Int) - 1) = (i : Int) := by omega
      rw [e1]
      clear e1 hk0
      have hiI : (i : Int) < (len : Int) := by omega
      have hE : nb b i (len - i) = nb b (i + 1) (len - (i + 1)) * 2 ^ 8 + b i / 2 ^ (8 - 8) := by
        have e2 : len - i = (len - (i + 1)) + 1 := by omega
        rw [e2]
        show b i + 256 * nb b (i + 1) (len - (i + 1)) = _
        simp only [Nat.sub_self, Nat.pow_zero, Nat.div_one]
        omega
      have HE : Hid (nb b i (len - i) = nb b (i + 1) (len - (i + 1)) * 2 ^ 8 + b i / 2 ^ (8 - 8)) := hE
      clear hE
      generalize nb b (i + 1) (len - (i + 1)) = E at *
      go_wp2_with fail
      go_loopw [7] (fun t wr => ∃ m : Nat, m ≤ 8 ∧ t = .int .i64 (7 - (m : Int)) ∧ Blk wr w.heap.size (dC x) 84 ∧ Blk wr (w.heap.size + 1) z16 84 ∧ Blk wr (w.heap.size + 1 + 1) (dC (pwP x (E * 2 ^ m + b i / 2 ^ (8 - m)))) 84 ∧ Bs wr g o len b ∧ Chg w wr []) (fun t _ => (intOf t + 1).toNat)
      case atStart => exact ⟨0, by omega, rfl, b0, b1, by rw [Nat.pow_zero, Nat.mul_one, Nat.div_eq_of_lt (by omega), Nat.add_zero]; exact b2, u0, c0⟩
      case round =>
        obtain ⟨m, hm, rfl, b0, b1, b2, u0, c0⟩ := hrel
        by_cases hm8 : m < 8
        · have hm7 : (0 : Int) ≤ 7 - (m : Int) := by omega
          have HST : Hid (E * 2 ^ (m + 1) + b i / 2 ^ (8 - (m + 1)) = 2 * (E * 2 ^ m + b i / 2 ^ (8 - m)) + b i / 2 ^ (7 - m) % 2) := bit_step E (b i) m hm8
          have hlb := low_bit (b i) (7 - m) hbi
          generalize E * 2 ^ m + b i / 2 ^ (8 - m) = e0 at *
          go_wp2_with (refine wpList_load_row rfl 84 _ rfl (w.heap.size + 1 + 1) rfl 84 _ (0, 0) _ b2 Try.underlying84 rfl (nInfo16 _) ?_)
          refine (mul_p (pwP x e0) (pwP x e0) (lt_256 _ (pwP_lt x e0)) (lt_256 _ (pwP_lt x e0)) _).mono ?_
          rintro e v3 ⟨rfl, k3⟩
          rw [pwP_dbl]
          replace b0 := b0.chg k3 (by simp)
          replace b1 := b1.chg k3 (by simp)
          replace b2 := b2.chg k3 (by simp)
          replace u0 := u0.chg k3 (by simp)
          replace c0 := c0.trans1 k3
          clear k3
          have cl := u0.cell i (by omega)
          have b2n : Blk (v3.setRow (w.heap.size + 1 + 1) (dC (pwP x (2 * e0)))) (w.heap.size + 1 + 1) (dC (pwP x (2 * e0))) 84 := b2.setRow _
          have b0n : Blk (v3.setRow (w.heap.size + 1 + 1) (dC (pwP x (2 * e0)))) w.heap.size (dC x) 84 := b0.setRowOther (by omega) _
          have b1n : Blk (v3.setRow (w.heap.size + 1 + 1) (dC (pwP x (2 * e0)))) (w.heap.size + 1) z16 84 := b1.setRowOther (by omega) _
          have k4 : Chg v3 (v3.setRow (w.heap.size + 1 + 1) (dC (pwP x (2 * e0)))) [w.heap.size + 1 + 1] := Chg.of (gb_setRow (gb_refl v3 _) _)
          have un := u0.chg k4 (by rw [List.mem_singleton]; omega)
          have cn := c0.new k4 (show w.heap.size ≤ w.heap.size + 1 + 1 by omega)
          have cln := un.cell i (by omega)
          clear k4 u0 c0 b0 b1
          rcases Nat.mod_two_eq_zero_or_one (b i / 2 ^ (7 - m)) with hz | hz
          · rw [hz] at hlb
            have HZ : Hid (b i / 2 ^ (7 - m) % 2 = 0) := hz
            clear hz
            go_wp2_with (refine wpList_store_row rfl 84 _ _ rfl (w.heap.size + 1 + 1) _ rfl rfl 84 _ b2 (nInfo16 _) rfl (uC_one _ _) ?_)
            go_roundw
            case rel => exact ⟨m + 1, by omega, by go_num, b0n, b1n, by rw [HST.out, HZ.out]; exact b2n, un, cn⟩
            case measure => simp [intOf]; omega
          · rw [hz] at hlb
            have HZ : Hid (b i / 2 ^ (7 - m) % 2 = 1) := hz
            clear hz
            go_wp2_with (first | (refine wpList_store_row rfl 84 _ _ rfl (w.heap.size + 1 + 1) _ rfl rfl 84 _ b2 (nInfo16 _) rfl (uC_one _ _) ?_) | (refine wpList_load_row rfl 84 _ rfl (w.heap.size + 1 + 1) rfl 84 _ (0, 0) _ b2n Try.underlying84 rfl (nInfo16 _) ?_) | (refine wpList_load_row rfl 84 _ rfl w.heap.size rfl 84 _ (0, 0) _ b0n Try.underlying84 rfl (nInfo16 _) ?_))
            refine (mul_p (pwP x (2 * e0)) x (lt_256 _ (pwP_lt x _)) hx _).mono ?_
            rintro e v5 ⟨rfl, k5⟩
            rw [pwP_inc]
            replace b0n := b0n.chg k5 (by simp)
            replace b1n := b1n.chg k5 (by simp)
            replace b2n := b2n.chg k5 (by simp)
            replace un := un.chg k5 (by simp)
            replace cn := cn.trans1 k5
            clear k5 b2
            have k6 : Chg v5 (v5.setRow (w.heap.size + 1 + 1) (dC (pwP x (2 * e0 + 1)))) [w.heap.size + 1 + 1] := Chg.of (gb_setRow (gb_refl v5 _) _)
            go_wp2_with (refine wpList_store_row rfl 84 _ _ rfl (w.heap.size + 1 + 1) _ rfl rfl 84 _ b2n (nInfo16 _) rfl (uC_one _ _) ?_)
            go_roundw
            case rel => exact ⟨m + 1, by omega, by go_num, b0n.setRowOther (by omega) _, b1n.setRowOther (by omega) _, by rw [HST.out, HZ.out]; exact b2n.setRow _, un.chg k6 (by rw [List.mem_singleton]; omega), cn.new k6 (by omega)⟩
            case measure => simp [intOf]; omega
        · have hm9 : m = 8 := by omega
          subst hm9
          have hneg : ¬ (0 : Int) ≤ 7 - ((8 : Nat) : Int) := by omega
          go_wp2_with fail
          go_roundw
          case rel => exact ⟨i, by omega, rfl, b0, b1, by rw [HE.out]; exact b2, u0, c0⟩
          case measure => simp [intOf]
end Go.Proofs.Ytialljmkkichiaa
