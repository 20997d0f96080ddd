/- rimeref01: add, neg, mul. -/
import Derived.Test.YtialljmkkichiaaRVal
set_option linter.unusedVariables false
set_option linter.unusedSimpArgs false
set_option linter.unnecessarySimpa false
namespace Go.Proofs.Ytialljmkkichiaa
open Go.RowKit N

theorem mk16 (w : World) : (Instr.makeSlice 86 (.int .i64 16) (.int .i64 16)).run Try.prog w = .ok (.slice (some ⟨w.heap.size, 0, none⟩) 16 16) (w.alloc (.cells (uC 16 fun _ => 0) 25)) := mkU 16 (by decide) w
theorem mkL32 (w : World) : (Instr.makeSlice 86 (.int .i64 32) (.int .i64 32)).run Try.prog w = .ok (.slice (some ⟨w.heap.size, 0, none⟩) 32 32) (w.alloc (.cells (uC 32 fun _ => 0) 25)) := mkU 32 (by decide) w
/-- The sums, when k have been laid. -/
def sfk (x y k i : Nat) : Nat := if i < k then dg x i + dg y i else 0
theorem sfk_step (x y k i : Nat) : upd (sfk x y k) k (dg x k + dg y k) i = sfk x y (k + 1) i := by
  by_cases e : i = k
  · subst e; rw [upd_same]; unfold sfk; rw [if_pos (by omega)]
  · rw [upd_other _ _ _ _ e]
    unfold sfk
    by_cases h : i < k
    · rw [if_pos h, if_pos (by omega)]
    · rw [if_neg h, if_neg (by omega)]
theorem sfk_lt (x y k i : Nat) : sfk x y k i < 1099511627776 := by
  unfold sfk
  have := dg_lt x i
  have := dg_lt y i
  split <;> omega
theorem nv_sfk (x y : Nat) (hx : x < 115792089237316195423570985008687907853269984665640564039457584007913129639936) (hy : y < 115792089237316195423570985008687907853269984665640564039457584007913129639936) : nv (sfk x y 16) 0 16 = x + y := by
  have h := nv_lin (dg x) (dg y) 1 16 0
  rw [nv_dg16 x hx, nv_dg16 y hy, Nat.one_mul] at h
  rw [← h]
  exact nv_congr _ _ 16 0 (fun i _ hi => by unfold sfk; rw [if_pos (by omega), Nat.one_mul])

set_option maxHeartbeats 4000000 in
set_option maxRecDepth 100000 in
theorem add_r (x y : Nat) (hx : x < 115792089237316195423570985008687907853269984665640564039457584007913129639936) (hy : y < 115792089237316195423570985008687907853269984665640564039457584007913129639936) (w : World) :
    Calls Try.prog 86 #[.agg (dC x), .agg (dC y)] w fun e w' => e = .returned (.agg (dC ((x + y) % PM))) ∧ Chg w w' [] := by
  have hmk := mk16
  have E3 : uC 16 (fun _ => 0) = uC 16 (sfk x y 0) := uC_congr 16 _ _ (fun i _ => by simp [sfk])
  have B0 : Blk (((((w.alloc (.cells (dC x) 84)).alloc (.cells (dC y) 84)).alloc (.cells z16 84))).alloc (.cells (uC 16 (sfk x y 0)) 25)) w.heap.size (dC x) 84 := (((Blk.new w (dC x) 84).alloc _).alloc _).alloc _
  have B1 : Blk (((((w.alloc (.cells (dC x) 84)).alloc (.cells (dC y) 84)).alloc (.cells z16 84))).alloc (.cells (uC 16 (sfk x y 0)) 25)) (w.heap.size + 1) (dC y) 84 := by have h := ((Blk.new (w.alloc (.cells (dC x) 84)) (dC y) 84).alloc (.cells z16 84)).alloc (.cells (uC 16 (sfk x y 0)) 25); simpa using h
  have B2 : Blk (((((w.alloc (.cells (dC x) 84)).alloc (.cells (dC y) 84)).alloc (.cells z16 84))).alloc (.cells (uC 16 (sfk x y 0)) 25)) (w.heap.size + 1 + 1) z16 84 := by have h := (Blk.new ((w.alloc (.cells (dC x) 84)).alloc (.cells (dC y) 84)) z16 84).alloc (.cells (uC 16 (sfk x y 0)) 25); simpa using h
  have B3 : Blk (((((w.alloc (.cells (dC x) 84)).alloc (.cells (dC y) 84)).alloc (.cells z16 84))).alloc (.cells (uC 16 (sfk x y 0)) 25)) (w.heap.size + 1 + 1 + 1) (uC 16 (sfk x y 0)) 25 := by have h := Blk.new (((w.alloc (.cells (dC x) 84)).alloc (.cells (dC y) 84)).alloc (.cells z16 84)) (uC 16 (sfk x y 0)) 25; simpa using h
  have C0 := ((((Chg.refl w []).alloc (.cells (dC x) 84)).alloc (.cells (dC y) 84)).alloc (.cells z16 84)).alloc (.cells (uC 16 (sfk x y 0)) 25)
  rw [E3] at hmk
  clear E3
  go_enter Try.func86, Try.ntmps86
  go_wp2_with fail
  clear hmk
  go_loopw [6] (fun t wr => ∃ i : Nat, i ≤ 16 ∧ t = .int .i64 (i : Int) ∧ Blk wr w.heap.size (dC x) 84 ∧ Blk wr (w.heap.size + 1) (dC y) 84 ∧ Blk wr (w.heap.size + 1 + 1) z16 84 ∧ Blk wr (w.heap.size + 1 + 1 + 1) (uC 16 (sfk x y i)) 25 ∧ Chg w wr []) (fun t _ => (16 - intOf t).toNat)
  case atStart => exact ⟨0, by omega, rfl, B0, B1, B2, B3, C0⟩
  case round =>
    obtain ⟨i, hi, rfl, b0, b1, b2, b3, c0⟩ := hrel
    clear B0 B1 B2 B3 C0
    by_cases hi16 : i < 16
    · have hI : (i : Int) < 16 := by omega
      have cx := (b0.cell i).trans (uC_get 16 (dg x) i hi16)
      have cy := (b1.cell i).trans (uC_get 16 (dg y) i hi16)
      have cl := (b3.cell i).trans (uC_get 16 (sfk x y i) i hi16)
      have fl := b3.frozen i
      have hdx := dg_lt x i
      have hdy := dg_lt y i
      have hw := u64w (((dg x i : Nat) : Int) + ((dg y i : Nat) : Int)) (by omega) (by omega)
      have b3n : Blk (wr.setCell ⟨w.heap.size + 1 + 1 + 1, i, none⟩ (.int .u64 (((dg x i : Nat) : Int) + ((dg y i : Nat) : Int)))) (w.heap.size + 1 + 1 + 1) (uC 16 (sfk x y (i + 1))) 25 := (b3.setCell i (.int .u64 (((dg x i : Nat) : Int) + ((dg y i : Nat) : Int)))).to (by rw [natc, uC_set]; exact uC_congr 16 _ (sfk x y (i + 1)) (fun j _ => sfk_step x y i j))
      have b0n := b0.setOther (show ¬ w.heap.size = w.heap.size + 1 + 1 + 1 by omega) i (.int .u64 (((dg x i : Nat) : Int) + ((dg y i : Nat) : Int)))
      have b1n := b1.setOther (show ¬ w.heap.size + 1 = w.heap.size + 1 + 1 + 1 by omega) i (.int .u64 (((dg x i : Nat) : Int) + ((dg y i : Nat) : Int)))
      have b2n := b2.setOther (show ¬ w.heap.size + 1 + 1 = w.heap.size + 1 + 1 + 1 by omega) i (.int .u64 (((dg x i : Nat) : Int) + ((dg y i : Nat) : Int)))
      have cn := c0.new (Chg.of (gb_set (gb_refl wr _) i (.int .u64 (((dg x i : Nat) : Int) + ((dg y i : Nat) : Int))))) (show w.heap.size ≤ w.heap.size + 1 + 1 + 1 by omega)
      clear b0 b1 b2 b3 c0
      go_wp2_with fail
      go_region
      go_wp2_with fail
      exact ⟨⟨i + 1, by omega, by go_num, b0n.drew, b1n.drew, b2n.drew, b3n.drew, cn.drew⟩, by simp [intOf]; omega⟩
    · have hi2 : i = 16 := by omega
      subst hi2
      clear hi hi16
      go_wp2_with fail
      refine (mod_r (w.heap.size + 1 + 1 + 1) 0 16 16 (sfk x y 16) (by decide) (fun j _ => sfk_lt x y 16 j) _ (Us.of b3)).mono ?_
      rintro e v1 ⟨rfl, k⟩
      rw [nv_sfk x y hx hy]
      replace b2 := b2.chg k (by simp)
      replace c0 := c0.trans1 k
      clear k
      go_wp2_with (refine wpList_store_row rfl 84 _ _ rfl (w.heap.size + 1 + 1) _ rfl rfl 84 _ b2 (nInfo16 _) rfl (uC_one _ _) ?_)
      exact bodyPost_ret (results_cell_row Try.results86 _ _ (w.heap.size + 1 + 1) 84 (dC ((x + y) % PM)) (0, 0) _ rfl (Blk.setRow b2 _) Try.underlying84 rfl (nInfo16 _)) rfl ⟨rfl, c0.setRowNew (by omega) _⟩

set_option maxHeartbeats 4000000 in
set_option maxRecDepth 100000 in
theorem neg_r (x : Nat) (hx : x < PM) (w : World) : Calls Try.prog 88 #[.agg (dC x)] w fun e w' => e = .returned (.agg (dC ((PM - x) % PM))) ∧ Chg w w' [] := by
  have hx2 : nv (dg x) 0 16 = x := nv_dg16 x (by unfold PM at hx; omega)
  have B0 : Blk (((w.alloc (.cells (dC x) 84)).alloc (.cells z16 84)).alloc (.cells z16 84)) w.heap.size (dC x) 84 := ((Blk.new w (dC x) 84).alloc _).alloc _
  have B1 : Blk (((w.alloc (.cells (dC x) 84)).alloc (.cells z16 84)).alloc (.cells z16 84)) (w.heap.size + 1) z16 84 := by have h := (Blk.new (w.alloc (.cells (dC x) 84)) z16 84).alloc (.cells z16 84); simpa using h
  have B2 : Blk (((w.alloc (.cells (dC x) 84)).alloc (.cells z16 84)).alloc (.cells z16 84)) (w.heap.size + 1 + 1) z16 84 := by have h := Blk.new ((w.alloc (.cells (dC x) 84)).alloc (.cells z16 84)) z16 84; simpa using h
  replace B2 := B2.to z16_uC
  have C0 := (((Chg.refl w []).alloc (.cells (dC x) 84)).alloc (.cells z16 84)).alloc (.cells z16 84)
  obtain ⟨r, hr⟩ : ∃ r, r + x = PM := ⟨PM - x, by omega⟩
  have hrr : (PM - x) % PM = r % PM := by rw [show PM - x = r by omega]
  rw [hrr]
  clear hrr
  go_enter Try.func88, Try.ntmps88
  go_wp2_with fail
  go_loopw [4, 5] (fun t u wr => ∃ (i : Nat) (g : Nat → Nat) (bw : Nat), i ≤ 16 ∧ t = .int .u64 (bw : Int) ∧ u = .int .i64 (i : Int) ∧ bw ≤ 1 ∧ Blk wr w.heap.size (dC x) 84 ∧ Blk wr (w.heap.size + 1) z16 84 ∧ Blk wr (w.heap.size + 1 + 1) (uC 16 g) 84 ∧ Chg w wr [] ∧ (∀ j, j < i → g j < 65536) ∧ nv (dg PM) 0 i + 65536 ^ i * bw = nv g 0 i + nv (dg x) 0 i) (fun _ u _ => (16 - intOf u).toNat)
  case atStart => exact ⟨0, fun _ => 0, 0, by omega, rfl, rfl, by omega, B0, B1, B2, C0, fun j hj => absurd hj (by omega), by simp [nv]⟩
  case round =>
    obtain ⟨i, g, bw, hi16, rfl, rfl, hbw, b0, b1, b2, c0, hlo, hv⟩ := hrel
    clear B0 B1 B2 C0
    by_cases hi : i < 16
    · have hiI : (i : Int) < 16 := by omega
      have hgi := dg_lt x i
      have hpi := dg_lt PM i
      obtain ⟨xn, hxn⟩ : ∃ q, q + dg x i + bw = dg PM i + 65536 := ⟨dg PM i + 65536 - dg x i - bw, by omega⟩
      have hx2' : xn < 131072 := by omega
      have hlow : Hid (∀ j, j < i + 1 → upd g i (xn % 65536) j < 65536) := fun j hj => by
        by_cases e : j = i
        · subst e; rw [upd_same]; omega
        · rw [upd_other _ _ _ _ e]; exact hlo j (by omega)
      have hval : Hid (nv (dg PM) 0 (i + 1) + 65536 ^ (i + 1) * (1 - xn / 65536) = nv (upd g i (xn % 65536)) 0 (i + 1) + nv (dg x) 0 (i + 1)) := by
        show nv (dg PM) 0 (i + 1) + 65536 ^ (i + 1) * (1 - xn / 65536) = nv (upd g i (xn % 65536)) 0 (i + 1) + nv (dg x) 0 (i + 1)
        rw [nv_snoc, nv_snoc, nv_snoc, nv_upd_above g i _ 0 i (by omega), Nat.zero_add, upd_same, Nat.pow_succ]
        exact less_step _ _ _ _ xn bw _ _ _ hv hxn rfl hx2'
      clear hlo hv hr hx2
      go_wp2_with fail
      refine wp_region_held_drew (S := fun w' => Chg wr w' []) (by kernel_rfl) ((Chg.refl wr []).drew) (fun hHeld => ?_)
      refine take_val (v := ?_) 0 (some 11) rfl (by kernel_rfl) (by kernel_rfl) (by kernel_rfl) (fun _ _ _ h => h) rfl rfl (fun w hSw => ?_) hHeld ?_
      rotate_left
      · (go_simp; try with_reducible rfl)
      try simp only [Act.put, List.setIfInBounds_toArray, List.set_cons_zero, List.set_cons_succ]
      refine take_val (v := ?_) 3 (some 14) rfl (by kernel_rfl) (by kernel_rfl) (by kernel_rfl) (fun _ _ _ h => h) rfl rfl (fun w hSw => ?_) hHeld ?_
      rotate_left
      · (go_simp; try with_reducible rfl)
      try simp only [Act.put, List.setIfInBounds_toArray, List.set_cons_zero, List.set_cons_succ]
      refine take_val (v := ?_) 4 (some 15) rfl (by kernel_rfl) (by kernel_rfl) (by kernel_rfl) (fun _ _ _ h => h) rfl rfl (fun w hSw => ?_) hHeld ?_
      rotate_left
      · (go_simp; try with_reducible rfl)
      try simp only [Act.put, List.setIfInBounds_toArray, List.set_cons_zero, List.set_cons_succ]
      refine take_val (v := ?_) 5 (some 16) rfl (by kernel_rfl) (by kernel_rfl) (by kernel_rfl) (fun _ _ _ h => h) rfl rfl (fun w hSw => ?_) hHeld ?_
      rotate_left
      · have hc := ((b0.chg hSw (by simp)).cell i).trans (uC_get 16 (dg x) i hi)
        (go_simp; try with_reducible rfl)
      try simp only [Act.put, List.setIfInBounds_toArray, List.set_cons_zero, List.set_cons_succ]
      refine take_val (v := ?_) 7 (some 18) rfl (by kernel_rfl) (by kernel_rfl) (by kernel_rfl) (fun _ _ _ h => h) rfl rfl (fun w hSw => ?_) hHeld ?_
      rotate_left
      · (go_simp; try with_reducible rfl)
      try simp only [Act.put, List.setIfInBounds_toArray, List.set_cons_zero, List.set_cons_succ]
      refine wpAnyH_ready (rs := [1]) (by kernel_rfl) (by simp) ?_
      refine AllReadyH.cons (o := _) rfl (fun K hK => ?_) ?_
      ·
        go_simp
        refine (prime_r i hi _).mono ?_
        rintro e x1 ⟨rfl, k⟩
        go_wp2_with fail
        refine hK.out _ _ (hHeld.trans1 k) (fun hHeld => ?_)
        clear hK K
        try simp only [Act.put, List.setIfInBounds_toArray, List.set_cons_zero, List.set_cons_succ]
        refine take_val (v := (.int .u64 ((dg PM i + 65536 : Nat) : Int))) 2 (some 13) rfl (by kernel_rfl) (by kernel_rfl) (by kernel_rfl) (fun _ _ _ h => h) rfl rfl (fun w hSw => ?_) hHeld ?_
        · (go_simp; first | done | (simp only [IntKind.wrap_u64]; omega))
        try simp only [Act.put, List.setIfInBounds_toArray, List.set_cons_zero, List.set_cons_succ]
        refine take_val (v := (.int .u64 ((dg PM i + 65536 - dg x i : Nat) : Int))) 6 (some 17) rfl (by kernel_rfl) (by kernel_rfl) (by kernel_rfl) (fun _ _ _ h => h) rfl rfl (fun w hSw => ?_) hHeld ?_
        · (go_simp; first | done | (simp only [IntKind.wrap_u64]; omega))
        try simp only [Act.put, List.setIfInBounds_toArray, List.set_cons_zero, List.set_cons_succ]
        refine take_val (v := (.int .u64 ((xn : Nat) : Int))) 8 (some 19) rfl (by kernel_rfl) (by kernel_rfl) (by kernel_rfl) (fun _ _ _ h => h) rfl rfl (fun w hSw => ?_) hHeld ?_
        · (go_simp; first | done | (simp only [IntKind.wrap_u64]; omega))
        try simp only [Act.put, List.setIfInBounds_toArray, List.set_cons_zero, List.set_cons_succ]
        refine take_val (v := ?_) 9 (some 6) rfl (by kernel_rfl) (by kernel_rfl) (by kernel_rfl) (fun _ _ _ h => h) rfl rfl (fun w hSw => ?_) hHeld ?_
        rotate_left
        · (go_simp; try with_reducible rfl)
        try simp only [Act.put, List.setIfInBounds_toArray, List.set_cons_zero, List.set_cons_succ]
        refine wpAnyH_done (by kernel_rfl) ?_ _
        have b0' := b0.chg hHeld (by simp)
        have b1' := b1.chg hHeld (by simp)
        have b2' := b2.chg hHeld (by simp)
        have c0' := c0.trans1 hHeld
        have hc := (b2'.cell i).trans (uC_get 16 g i hi)
        have fk := b2'.frozen i
        have hmod : Hid (((xn : Nat) : Int) % 65536 = ((xn % 65536 : Nat) : Int)) := (by omega : ((xn : Nat) : Int) % 65536 = ((xn % 65536 : Nat) : Int))
        have bn : Blk (x1.setCell ⟨w.heap.size + 1 + 1, i, none⟩ (.int .u64 (((xn : Nat) : Int) % 65536))) (w.heap.size + 1 + 1) (uC 16 (upd g i (xn % 65536))) 84 := (b2'.setCell i _).to (by rw [hmod.out]; exact uC_set 16 g i _)
        have b0n := b0'.setOther (show ¬ w.heap.size = w.heap.size + 1 + 1 by omega) i (.int .u64 (((xn : Nat) : Int) % 65536))
        have b1n := b1'.setOther (show ¬ w.heap.size + 1 = w.heap.size + 1 + 1 by omega) i (.int .u64 (((xn : Nat) : Int) % 65536))
        have cn := c0'.new (Chg.of (gb_set (gb_refl x1 _) i (.int .u64 (((xn : Nat) : Int) % 65536)))) (show w.heap.size ≤ w.heap.size + 1 + 1 by omega)
        clear b0' b1' b2' c0' b0 b1 b2 c0
        go_wp2_with fail
        go_roundw
        case rel => exact ⟨i + 1, upd g i (xn % 65536), 1 - xn / 65536, by omega, by go_num, by go_num, by omega, b0n, b1n, bn, cn, hlow, hval⟩
        case measure => simp [intOf]; omega
      exact AllReadyH.nil
    · have hi2 : i = 16 := by omega
      subst hi2
      have hlt : nv g 0 16 < 65536 ^ 16 := nv_lt g 16 0 (fun j _ hj => hlo j (by omega))
      have hres : nv g 0 16 = r := by rw [nv_PM, hx2] at hv; omega
      clear hi hv hlt hx2
      go_wp2_with (refine wpList_load_row rfl 84 _ rfl (w.heap.size + 1 + 1) rfl 84 _ (0, 0) _ b2 Try.underlying84 rfl (nInfo16 _) ?_)
      refine (atLeast_r g hlo _).mono ?_
      rintro e v1 ⟨rfl, k1⟩
      replace b1 := b1.chg k1 (by simp)
      replace b2 := b2.chg k1 (by simp)
      replace c0 := c0.trans1 k1
      clear k1 b0
      rw [hres]
      by_cases hP : PM ≤ r
      · have hx0 : r = 0 + PM := by omega
        have hr0 : r % PM = 0 := by rw [hx0, Nat.zero_add, Nat.mod_self]
        rw [decide_eq_true hP]
        replace hx0 : Hid (nv g 0 16 = 0 + PM) := hres.trans hx0
        replace hr0 : Hid (r % PM = 0) := hr0
        clear hP hres hr
        go_wp2_with (refine wpList_load_row rfl 84 _ rfl (w.heap.size + 1 + 1) rfl 84 _ (0, 0) _ b2 Try.underlying84 rfl (nInfo16 _) ?_)
        refine (lessP_r g hlo 0 hx0.out _).mono ?_
        rintro e v2 ⟨rfl, k2⟩
        replace b1 := b1.chg k2 (by simp)
        replace c0 := c0.trans1 k2
        clear k2
        go_wp2_with (refine wpList_store_row rfl 84 _ _ rfl (w.heap.size + 1) _ rfl rfl 84 _ b1 (nInfo16 _) rfl (uC_one _ _) ?_)
        exact bodyPost_ret (results_cell_row Try.results88 _ _ (w.heap.size + 1) 84 (dC 0) (0, 0) _ rfl (Blk.setRow b1 _) Try.underlying84 rfl (nInfo16 _)) rfl ⟨by rw [hr0.out], c0.setRowNew (by omega) _⟩
      · have hfin : uC 16 g = dC (r % PM) := dC_of g hlo _ (by rw [hres, Nat.mod_eq_of_lt (by omega)])
        rw [decide_eq_false hP]
        rw [hfin] at b2
        clear hP hfin hlo hres hr
        go_wp2_with (first | (refine wpList_load_row rfl 84 _ rfl (w.heap.size + 1 + 1) rfl 84 _ (0, 0) _ b2 Try.underlying84 rfl (nInfo16 _) ?_) | (refine wpList_store_row rfl 84 _ _ rfl (w.heap.size + 1) _ rfl rfl 84 _ b1 (nInfo16 _) rfl (uC_one _ _) ?_))
        exact bodyPost_ret (results_cell_row Try.results88 _ _ (w.heap.size + 1) 84 (dC (r % PM)) (0, 0) _ rfl (Blk.setRow b1 _) Try.underlying84 rfl (nInfo16 _)) rfl ⟨rfl, c0.setRowNew (by omega) _⟩

end Go.Proofs.Ytialljmkkichiaa
