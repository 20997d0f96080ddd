/- rimeref01.mod, of any number of digits. -/
import Derived.Test.YtialljmkkichiaaRArith
set_option linter.unusedVariables false
set_option linter.unusedSimpArgs false
set_option linter.unnecessarySimpa false
namespace Go.Proofs.Ytialljmkkichiaa
open Go.RowKit N

/-- The 32 digits, when k rounds have been laid. -/
def shk (l : Nat → Nat) (r k j : Nat) : Nat := if j < 16 then (if j < k then l j else 0) else if j < k + 16 then dg r (j - 16) else 0
theorem shk_zero (l : Nat → Nat) (r j : Nat) : shk l r 0 j = 0 := by
  unfold shk
  by_cases h : j < 16
  · rw [if_pos h, if_neg (by omega)]
  · rw [if_neg h, if_neg (by omega)]
theorem shk_step (l : Nat → Nat) (r k j : Nat) (hk : k < 16) : upd (upd (shk l r k) k (l k)) (k + 16) (dg r k) j = shk l r (k + 1) j := by
  by_cases e1 : j = k + 16
  · subst e1; rw [upd_same]; unfold shk; rw [if_neg (by omega), if_pos (by omega), show k + 16 - 16 = k by omega]
  · rw [upd_other _ _ _ _ e1]
    by_cases e0 : j = k
    · subst e0; rw [upd_same]; unfold shk; rw [if_pos hk, if_pos (by omega)]
    · rw [upd_other _ _ _ _ e0]
      unfold shk
      by_cases h : j < 16
      · rw [if_pos h, if_pos h]
        by_cases h2 : j < k
        · rw [if_pos h2, if_pos (by omega)]
        · rw [if_neg h2, if_neg (by omega)]
      · rw [if_neg h, if_neg h]
        by_cases h2 : j < k + 16
        · rw [if_pos h2, if_pos (by omega)]
        · rw [if_neg h2, if_neg (by omega)]
theorem shk_lt (l : Nat → Nat) (r k j : Nat) (h : ∀ i, i < 16 → l i < 1099511627776) : shk l r k j < 1099511627776 := by
  unfold shk
  by_cases h1 : j < 16
  · rw [if_pos h1]
    have := h j h1
    split <;> omega
  · rw [if_neg h1]
    have := dg_lt r (j - 16)
    split <;> omega
theorem nv_shk (l : Nat → Nat) (r : Nat) (hr : r < 115792089237316195423570985008687907853269984665640564039457584007913129639936) : nv (shk l r 16) 0 32 = nv l 0 16 + 115792089237316195423570985008687907853269984665640564039457584007913129639936 * r := by
  have e1 : nv (shk l r 16) 0 32 = nv (shk l r 16) 0 16 + 65536 ^ 16 * nv (shk l r 16) 16 16 := nv_add (shk l r 16) 16 0 16
  have e2 : nv (shk l r 16) 0 16 = nv l 0 16 := nv_congr _ _ 16 0 (fun i _ hi => by unfold shk; rw [if_pos (by omega), if_pos (by omega)])
  have e3 : nv (shk l r 16) 16 16 = nv (dg r) 0 16 := by
    have h := nv_shift (shk l r 16) 16 16 0
    rw [Nat.zero_add] at h
    rw [← h]
    exact nv_congr _ _ 16 0 (fun i _ hi => by show shk l r 16 (i + 16) = dg r i; unfold shk; rw [if_neg (by omega), if_pos (by omega), Nat.add_sub_cancel])
  rw [e1, e2, e3, nv_dg16 r hr, pow16]
theorem mod_joint (A B n16 : Nat) (h : n16 = A + 115792089237316195423570985008687907853269984665640564039457584007913129639936 * B) : (A + 115792089237316195423570985008687907853269984665640564039457584007913129639936 * (B % PM)) % PM = n16 % PM := by
  rw [h, Nat.add_mod, Nat.mul_mod_mod, ← Nat.add_mod]

set_option maxHeartbeats 4000000 in
set_option maxRecDepth 100000 in
theorem mod_more (n : Nat) (hn : 32 < n) (ih : ∀ (g o cap : Nat) (l : Nat → Nat), n - 16 ≤ cap → cap ≤ 9223372036854775807 → (∀ i, i < n - 16 → l i < 1099511627776) → ∀ w : World, Us w g o (n - 16) l →
      Calls Try.prog 68 #[.slice (some ⟨g, o, none⟩) (n - 16) cap] w fun e w' => e = .returned (.agg (dC (nv l 0 (n - 16) % PM))) ∧ Chg w w' [])
    (g o cap : Nat) (l : Nat → Nat) (hc : n ≤ cap) (hcap : cap ≤ 9223372036854775807) (hl : ∀ i, i < n → l i < 1099511627776) (w : World) (hu : Us w g o n l) :
    Calls Try.prog 68 #[.slice (some ⟨g, o, none⟩) n cap] w fun e w' => e = .returned (.agg (dC (nv l 0 n % PM))) ∧ Chg w w' [] := by
  have hg := hu.lt
  have hmk := mkL32
  have B0 := Blk.new w z16 84
  have C0 := (Chg.refl w []).alloc (.cells z16 84)
  replace hu := hu.alloc (.cells z16 84)
  obtain ⟨T, hT⟩ : ∃ T, T = nv l 0 n % PM := ⟨_, rfl⟩
  rw [← hT]
  go_enter Try.func68, Try.ntmps68
  have hle : (32 : Int) < (n : Int) := by omega
  have h16 : (16 : Int) ≤ (n : Int) := by omega
  have h16c : ¬ cap = 16 := by omega
  go_wp2_with fail
  have ui : Us (w.alloc (.cells z16 84)) g (o + 16) (n - 16) (fun i => l (i + 16)) := ⟨hu.lt, fun i hi => by
    have h := hu.cell (i + 16) (by omega)
    rw [show o + 16 + i = o + (i + 16) by omega]
    exact h⟩
  refine (ih g (o + 16) (cap - 16) (fun i => l (i + 16)) (by omega) (by omega) (fun i hi => hl (i + 16) (by omega)) _ ui).mono ?_
  rintro e y1 ⟨rfl, k⟩
  obtain ⟨r, hr⟩ : ∃ r, r = nv (fun i => l (i + 16)) 0 (n - 16) % PM := ⟨_, rfl⟩
  rw [← hr]
  have hr256 : r < 115792089237316195423570985008687907853269984665640564039457584007913129639936 := by
    have h : r < PM := by rw [hr]; exact Nat.mod_lt _ (by unfold PM; decide)
    unfold PM at h
    omega
  have hfin : Hid (nv (shk l r 16) 0 32 % PM = T) := by
    show nv (shk l r 16) 0 32 % PM = T
    rw [nv_shk l r hr256, hr, hT]
    apply mod_joint
    rw [nv_shift l 16 (n - 16) 0, Nat.zero_add, ← pow16]
    have h := nv_add l 16 0 (n - 16)
    rw [Nat.zero_add, show 16 + (n - 16) = n by omega] at h
    exact h
  replace B0 := B0.chg k (by simp)
  replace C0 := C0.trans1 k
  replace hu := hu.chg k (by simp)
  have hls : ∀ i, i < 16 → l i < 1099511627776 := fun i hi => hl i (by omega)
  have szg : g < y1.heap.size := hu.lt
  have szw : w.heap.size < y1.heap.size := B0.lt
  clear k ui ih hr hT hl
  have A3 : Blk (y1.alloc (.cells z16 84)) y1.heap.size z16 84 := Blk.new y1 z16 84
  have D0 : Blk (((y1.alloc (.cells z16 84)).setRow y1.heap.size (dC r)).alloc (.cells (uC 32 fun _ => 0) 25)) w.heap.size z16 84 := ((B0.alloc _).setRowOther (by omega) _).alloc _
  have D3 : Blk (((y1.alloc (.cells z16 84)).setRow y1.heap.size (dC r)).alloc (.cells (uC 32 fun _ => 0) 25)) y1.heap.size (dC r) 84 := (A3.setRow _).alloc _
  have D4 : Blk (((y1.alloc (.cells z16 84)).setRow y1.heap.size (dC r)).alloc (.cells (uC 32 fun _ => 0) 25)) (y1.heap.size + 1) (uC 32 (shk l r 0)) 25 := Blk.to (by have h := Blk.new ((y1.alloc (.cells z16 84)).setRow y1.heap.size (dC r)) (uC 32 fun _ => 0) 25; simpa using h) (uC_congr 32 _ _ (fun i _ => (shk_zero l r i).symm))
  have k2 : Chg y1 (((y1.alloc (.cells z16 84)).setRow y1.heap.size (dC r)).alloc (.cells (uC 32 fun _ => 0) 25)) [] := (((Chg.refl y1 []).alloc _).setRowNew (Nat.le_refl _) _).alloc _
  have CC : Chg w (((y1.alloc (.cells z16 84)).setRow y1.heap.size (dC r)).alloc (.cells (uC 32 fun _ => 0) 25)) [] := C0.trans1 k2
  have uu : Us (((y1.alloc (.cells z16 84)).setRow y1.heap.size (dC r)).alloc (.cells (uC 32 fun _ => 0) 25)) g o n l := hu.chg k2 (by simp)
  clear B0 C0 hu k2
  go_wp2_with (refine wpList_store_row rfl 84 _ _ rfl y1.heap.size _ rfl rfl 84 _ A3 (nInfo16 _) rfl (uC_one _ _) ?_)
  clear A3 hmk
  generalize hG : y1.heap.size = G at *
  go_loopw [5] (fun t wr => ∃ i : Nat, i ≤ 16 ∧ t = .int .i64 (i : Int) ∧ Blk wr w.heap.size z16 84 ∧ Blk wr G (dC r) 84 ∧ Blk wr (G + 1) (uC 32 (shk l r i)) 25 ∧ Us wr g o n l ∧ Chg w wr []) (fun t _ => (16 - intOf t).toNat)
  case atStart => exact ⟨0, by omega, rfl, D0, D3, D4, uu, CC⟩
  case round =>
    obtain ⟨i, hi, rfl, d0, d3, d4, u0, c0⟩ := hrel
    clear D0 D3 D4 uu CC
    by_cases hi16 : i < 16
    · have hI : (i : Int) < 16 := by omega
      have hI2 : (i : Int) < 32 := by omega
      have hI3 : (i : Int) + 16 < 32 := by omega
      have hIn : (i : Int) < (n : Int) := by omega
      have cl := u0.cell i (by omega)
      have cr' := (d3.cell i).trans (uC_get 16 (dg r) i hi16)
      have ca := (d4.cell i).trans (uC_get 32 _ i (by omega))
      have cb := (d4.cell (i + 16)).trans (uC_get 32 _ (i + 16) (by omega))
      have fa := d4.frozen i
      have fb := d4.frozen (i + 16)
      have hne : ¬ G = G + 1 := by omega
      have hne2 : ¬ w.heap.size = G + 1 := by omega
      have hne3 : ¬ g = G + 1 := by omega
      have d4n : Blk ((wr.setCell ⟨G + 1, i, none⟩ (.int .u64 ((l i : Nat) : Int))).setCell ⟨G + 1, i + 16, none⟩ (.int .u64 ((dg r i : Nat) : Int))) (G + 1) (uC 32 (shk l r (i + 1))) 25 := ((d4.setCell i (.int .u64 ((l i : Nat) : Int))).setCell (i + 16) (.int .u64 ((dg r i : Nat) : Int))).to (by rw [uC_set, uC_set]; exact uC_congr 32 _ _ (fun j _ => shk_step l r i j hi16))
      have d0n := (d0.setOther hne2 i (.int .u64 ((l i : Nat) : Int))).setOther hne2 (i + 16) (.int .u64 ((dg r i : Nat) : Int))
      have d3n := (d3.setOther hne i (.int .u64 ((l i : Nat) : Int))).setOther hne (i + 16) (.int .u64 ((dg r i : Nat) : Int))
      have un := (u0.set (G + 1) i (.int .u64 ((l i : Nat) : Int)) hne3).set (G + 1) (i + 16) (.int .u64 ((dg r i : Nat) : Int)) hne3
      have cn := (c0.new (Chg.of (gb_set (gb_refl wr _) i (.int .u64 ((l i : Nat) : Int)))) (show w.heap.size ≤ G + 1 by omega)).new (Chg.of (gb_set (gb_refl _ _) (i + 16) (.int .u64 ((dg r i : Nat) : Int)))) (show w.heap.size ≤ G + 1 by omega)
      clear d0 d3 d4 u0 c0
      go_wp2_with fail
      go_roundw
      case rel => exact ⟨i + 1, by omega, by go_num, d0n, d3n, d4n, un, cn⟩
      case measure => simp [intOf]; omega
    · have hi2 : i = 16 := by omega
      subst hi2
      clear hi hi16
      go_wp2_with fail
      refine (mod_r (G + 1) 0 32 32 (shk l r 16) (by decide) (fun j _ => shk_lt l r 16 j hls) _ (Us.of d4)).mono ?_
      rintro e y2 ⟨rfl, k⟩
      rw [hfin.out]
      replace d0 := d0.chg k (by simp)
      replace c0 := c0.trans1 k
      clear k d3 d4 u0
      go_wp2_with (refine wpList_store_row rfl 84 _ _ rfl w.heap.size _ rfl rfl 84 _ d0 (nInfo16 _) rfl (uC_one _ _) ?_)
      exact bodyPost_ret (results_cell_row Try.results68 _ _ w.heap.size 84 (dC T) (0, 0) _ rfl (Blk.setRow d0 _) Try.underlying84 rfl (nInfo16 _)) rfl ⟨rfl, c0.setRowNew (Nat.le_refl _) _⟩

theorem mod_all : ∀ (n g o cap : Nat) (l : Nat → Nat), n ≤ cap → cap ≤ 9223372036854775807 → (∀ i, i < n → l i < 1099511627776) → ∀ w : World, Us w g o n l →
    Calls Try.prog 68 #[.slice (some ⟨g, o, none⟩) n cap] w fun e w' => e = .returned (.agg (dC (nv l 0 n % PM))) ∧ Chg w w' [] := by
  intro n
  induction n using Nat.strongRecOn with
  | ind n ih =>
    intro g o cap l hc hcap hl w hu
    by_cases hn : n ≤ 32
    · exact mod_r g o n cap l hn hl w hu
    · exact mod_more n (by omega) (fun g o cap l h1 h2 h3 w h4 => ih (n - 16) (by omega) g o cap l h1 h2 h3 w h4) g o cap l hc hcap hl w hu
end Go.Proofs.Ytialljmkkichiaa
