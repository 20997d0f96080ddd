/- rimeref01: mul. -/
import Derived.Test.YtialljmkkichiaaRArith
set_option linter.unusedVariables false
set_option linter.unusedSimpArgs false
set_option linter.unnecessarySimpa false
namespace Go.Proofs.Ytialljmkkichiaa
open Go.RowKit N

theorem mul_step (X Y p q xi yk V : Nat) (h : V = X + p * xi * Y) : V + p * q * (xi * yk) = X + p * xi * (Y + q * yk) := by
  rw [h, Nat.mul_add, Nat.add_assoc]
  congr 2
  rw [Nat.mul_assoc, Nat.mul_assoc]
  congr 1
  rw [Nat.mul_left_comm]
/-- What a place may hold behind i rows. -/
def lim (i : Nat) : Nat := i * 4294967296
theorem lim_succ (i : Nat) : lim (i + 1) = lim i + 4294967296 := by unfold lim; omega
theorem lim_le (i : Nat) (h : i ≤ 16) : lim i ≤ 68719476736 := by unfold lim; omega
theorem prod_lt (a b : Nat) (ha : a < 65536) (hb : b < 65536) : a * b < 4294967296 := by
  have h : a * b ≤ 65535 * 65535 := Nat.mul_le_mul (by omega) (by omega)
  omega

set_option maxHeartbeats 4000000 in
set_option maxRecDepth 100000 in
theorem mul_r (x y : Nat) (hx : x < 115792089237316195423570985008687907853269984665640564039457584007913129639936) (hy : y < 115792089237316195423570985008687907853269984665640564039457584007913129639936) (w : World) :
    Calls Try.prog 90 #[.agg (dC x), .agg (dC y)] w fun e w' => e = .returned (.agg (dC (x * y % PM))) ∧ Chg w w' [] := by
  have hmk := mkL32
  have hx2 : Hid (nv (dg x) 0 16 = x) := nv_dg16 x hx
  have hy2 : Hid (nv (dg y) 0 16 = y) := nv_dg16 y hy
  have B0 : Blk ((((w.alloc (.cells (dC x) 84)).alloc (.cells (dC y) 84)).alloc (.cells z16 84)).alloc (.cells (uC 32 fun _ => 0) 25)) w.heap.size (dC x) 84 := (((Blk.new w (dC x) 84).alloc _).alloc _).alloc _
  have B1 : Blk ((((w.alloc (.cells (dC x) 84)).alloc (.cells (dC y) 84)).alloc (.cells z16 84)).alloc (.cells (uC 32 fun _ => 0) 25)) (w.heap.size + 1) (dC y) 84 := by have h := ((Blk.new (w.alloc (.cells (dC x) 84)) (dC y) 84).alloc (.cells z16 84)).alloc (.cells (uC 32 fun _ => 0) 25); simpa using h
  have B2 : Blk ((((w.alloc (.cells (dC x) 84)).alloc (.cells (dC y) 84)).alloc (.cells z16 84)).alloc (.cells (uC 32 fun _ => 0) 25)) (w.heap.size + 1 + 1) z16 84 := by have h := (Blk.new ((w.alloc (.cells (dC x) 84)).alloc (.cells (dC y) 84)) z16 84).alloc (.cells (uC 32 fun _ => 0) 25); simpa using h
  have B3 : Blk ((((w.alloc (.cells (dC x) 84)).alloc (.cells (dC y) 84)).alloc (.cells z16 84)).alloc (.cells (uC 32 fun _ => 0) 25)) (w.heap.size + 1 + 1 + 1) (uC 32 fun _ => 0) 25 := by have h := Blk.new (((w.alloc (.cells (dC x) 84)).alloc (.cells (dC y) 84)).alloc (.cells z16 84)) (uC 32 fun _ => 0) 25; simpa using h
  have C0 := ((((Chg.refl w []).alloc (.cells (dC x) 84)).alloc (.cells (dC y) 84)).alloc (.cells z16 84)).alloc (.cells (uC 32 fun _ => 0) 25)
  go_enter Try.func90, Try.ntmps90
  go_wp2_with fail
  clear hmk hx hy
  go_loopw [6] (fun t wr => ∃ (i : Nat) (l : Nat → Nat), i ≤ 16 ∧ t = .int .i64 (i : Int) ∧ Blk wr w.heap.size (dC x) 84 ∧ Blk wr (w.heap.size + 1) (dC y) 84 ∧ Blk wr (w.heap.size + 1 + 1) z16 84 ∧ Blk wr (w.heap.size + 1 + 1 + 1) (uC 32 l) 25 ∧ Chg w wr [] ∧ (∀ j, j < 32 → l j ≤ lim i) ∧ nv l 0 32 = nv (dg x) 0 i * y) (fun t _ => (16 - intOf t).toNat)
  case atStart => exact ⟨0, fun _ => 0, by omega, rfl, B0, B1, B2, B3, C0, fun j _ => Nat.zero_le _, by simp [nv]⟩
  case round =>
    obtain ⟨i, l, hi, rfl, b0, b1, b2, b3, c0, hl, hv⟩ := hrel
    clear B0 B1 B2 B3 C0
    by_cases hi16 : i < 16
    · have hI : (i : Int) < 16 := by omega
      have hxi := dg_lt x i
      have hV : Hid (nv l 0 32 = nv (dg x) 0 i * y) := hv
      have hls := lim_succ i
      have hl0 : ∀ j, j < 32 → l j ≤ lim (i + 1) := fun j hj => by have := hl j hj; omega
      have hlm := lim_le i (by omega)
      clear hv
      go_wp2_with fail
      go_loopw [7] (fun t wr => ∃ (k : Nat) (l : Nat → Nat), k ≤ 16 ∧ t = .int .i64 (k : Int) ∧ Blk wr w.heap.size (dC x) 84 ∧ Blk wr (w.heap.size + 1) (dC y) 84 ∧ Blk wr (w.heap.size + 1 + 1) z16 84 ∧ Blk wr (w.heap.size + 1 + 1 + 1) (uC 32 l) 25 ∧ Chg w wr [] ∧ (∀ j, j < 32 → l j ≤ lim (i + 1)) ∧ (∀ j, i + k ≤ j → j < 32 → l j ≤ lim i) ∧ nv l 0 32 = nv (dg x) 0 i * y + 65536 ^ i * dg x i * nv (dg y) 0 k) (fun t _ => (16 - intOf t).toNat)
      case atStart => exact ⟨0, l, by omega, rfl, b0, b1, b2, b3, c0, hl0, fun j _ hj => hl j hj, by rw [hV.out, nv_zero, Nat.mul_zero, Nat.add_zero]⟩
      case round =>
        obtain ⟨k, l, hk, rfl, b0, b1, b2, b3, c0, hl1, hl2, hv⟩ := hrel
        by_cases hk16 : k < 16
        · have hK : (k : Int) < 16 := by omega
          have hIK : (i : Int) + (k : Int) < 32 := by omega
          have hyk := dg_lt y k
          have hpl := prod_lt (dg x i) (dg y k) hxi hyk
          have hlik := hl2 (i + k) (Nat.le_refl _) (by omega)
          obtain ⟨pn, hpn⟩ : ∃ p, p = dg x i * dg y k := ⟨_, rfl⟩
          rw [← hpn] at hpl
          have hpi : ((dg x i : Nat) : Int) * ((dg y k : Nat) : Int) = ((pn : Nat) : Int) := by rw [hpn, Int.natCast_mul]
          have hw1 : IntKind.u64.wrap (((dg x i : Nat) : Int) * ((dg y k : Nat) : Int)) = ((pn : Nat) : Int) := by rw [hpi]; exact u64w _ (by omega) (by omega)
          have hw2 := u64w (((l (i + k) : Nat) : Int) + ((pn : Nat) : Int)) (by omega) (by omega)
          have hb1 : Hid (∀ j, j < 32 → upd l (i + k) (l (i + k) + pn) j ≤ lim (i + 1)) := fun j hj => by
            by_cases e : j = i + k
            · subst e; rw [upd_same]; omega
            · rw [upd_other _ _ _ _ e]; exact hl1 j hj
          have hb2 : Hid (∀ j, i + (k + 1) ≤ j → j < 32 → upd l (i + k) (l (i + k) + pn) j ≤ lim i) := fun j h1 h2 => by
            rw [upd_other _ _ _ _ (by omega)]; exact hl2 j (by omega) h2
          have hval : Hid (nv (upd l (i + k) (l (i + k) + pn)) 0 32 = nv (dg x) 0 i * y + 65536 ^ i * dg x i * nv (dg y) 0 (k + 1)) := by
            show nv (upd l (i + k) (l (i + k) + pn)) 0 32 = nv (dg x) 0 i * y + 65536 ^ i * dg x i * nv (dg y) 0 (k + 1)
            rw [nv_upd l (i + k) pn 32 (by omega), nv_snoc (dg y) 0 k, Nat.zero_add, hpn, Nat.pow_add]
            exact mul_step (nv (dg x) 0 i * y) (nv (dg y) 0 k) (65536 ^ i) (65536 ^ k) (dg x i) (dg y k) (nv l 0 32) hv
          have cx := (b0.cell i).trans (uC_get 16 (dg x) i hi16)
          have cy := (b1.cell k).trans (uC_get 16 (dg y) k hk16)
          have cl := (b3.cell (i + k)).trans (uC_get 32 l (i + k) (by omega))
          have fl := b3.frozen (i + k)
          have b3n : Blk (wr.setCell ⟨w.heap.size + 1 + 1 + 1, i + k, none⟩ (.int .u64 (((l (i + k) : Nat) : Int) + ((pn : Nat) : Int)))) (w.heap.size + 1 + 1 + 1) (uC 32 (upd l (i + k) (l (i + k) + pn))) 25 := (b3.setCell (i + k) _).to (by rw [natc, uC_set])
          have b0n := b0.setOther (show ¬ w.heap.size = w.heap.size + 1 + 1 + 1 by omega) (i + k) (.int .u64 (((l (i + k) : Nat) : Int) + ((pn : Nat) : Int)))
          have b1n := b1.setOther (show ¬ w.heap.size + 1 = w.heap.size + 1 + 1 + 1 by omega) (i + k) (.int .u64 (((l (i + k) : Nat) : Int) + ((pn : Nat) : Int)))
          have b2n := b2.setOther (show ¬ w.heap.size + 1 + 1 = w.heap.size + 1 + 1 + 1 by omega) (i + k) (.int .u64 (((l (i + k) : Nat) : Int) + ((pn : Nat) : Int)))
          have cn := c0.new (Chg.of (gb_set (gb_refl wr _) (i + k) (.int .u64 (((l (i + k) : Nat) : Int) + ((pn : Nat) : Int))))) (show w.heap.size ≤ w.heap.size + 1 + 1 + 1 by omega)
          clear b0 b1 b2 b3 c0 hl1 hl2 hv hpn hpi hl
          go_wp2_with fail
          go_region
          go_wp2_with fail
          exact ⟨⟨k + 1, upd l (i + k) (l (i + k) + pn), by omega, by go_num, b0n.drew, b1n.drew, b2n.drew, b3n.drew, cn.drew, hb1, hb2, hval⟩, by simp [intOf]; omega⟩
        · have hk2 : k = 16 := by omega
          subst hk2
          have hval : Hid (nv l 0 32 = nv (dg x) 0 (i + 1) * y) := by
            show nv l 0 32 = nv (dg x) 0 (i + 1) * y
            rw [hv, hy2.out, nv_snoc (dg x) 0 i, Nat.zero_add, Nat.add_mul]
          clear hk hk16 hv hl2
          go_wp2_with fail
          go_roundw
          case rel => exact ⟨i + 1, l, by omega, by go_num, b0, b1, b2, b3, c0, hl1, hval⟩
          case measure => simp [intOf]; omega
    · have hi2 : i = 16 := by omega
      subst hi2
      clear hi hi16
      go_wp2_with fail
      refine (mod_r (w.heap.size + 1 + 1 + 1) 0 32 32 l (by decide) (fun j hj => by have := hl j hj; have := lim_le 16 (by decide); omega) _ (Us.of b3)).mono ?_
      rintro e v1 ⟨rfl, k⟩
      rw [hv, hx2.out]
      replace b2 := b2.chg k (by simp)
      replace c0 := c0.trans1 k
      clear k
      go_wp2_with (refine wpList_store_row rfl 84 _ _ rfl (w.heap.size + 1 + 1) _ rfl rfl 84 _ b2 (nInfo16 _) rfl (uC_one _ _) ?_)
      exact bodyPost_ret (results_cell_row Try.results90 _ _ (w.heap.size + 1 + 1) 84 (dC (x * y % PM)) (0, 0) _ rfl (Blk.setRow b2 _) Try.underlying84 rfl (nInfo16 _)) rfl ⟨rfl, c0.setRowNew (by omega) _⟩

end Go.Proofs.Ytialljmkkichiaa
