/- rimeref01: lessP. -/
import Derived.Test.YtialljmkkichiaaRLess
set_option linter.unusedVariables false
set_option linter.unusedSimpArgs false
set_option linter.unnecessarySimpa false
namespace Go.Proofs.Ytialljmkkichiaa
open Go.RowKit N

/-- Sixteen zeros. -/
def z16 : Array Value := #[.int .u64 0, .int .u64 0, .int .u64 0, .int .u64 0, .int .u64 0, .int .u64 0, .int .u64 0, .int .u64 0, .int .u64 0, .int .u64 0, .int .u64 0, .int .u64 0, .int .u64 0, .int .u64 0, .int .u64 0, .int .u64 0]
theorem z16_uC : z16 = uC 16 fun _ => 0 := by kernel_rfl
theorem z16_info : (Try.prog.info? 84).map (·.size) = some z16.size := by kernel_rfl
theorem less_step (F G Q p x bw e : Nat) (fk pk : Nat) (h : F + p * bw = G + Q) (hx : x + pk + bw = fk + 65536) (he : e = 1 - x / 65536) (hx2 : x < 131072) :
    F + p * fk + p * 65536 * e = G + p * (x % 65536) + (Q + p * pk) := by
  have h1 : fk + 65536 * e = x % 65536 + pk + bw := by omega
  have h2 : p * fk + p * 65536 * e = p * (x % 65536) + p * pk + p * bw := by
    rw [Nat.mul_assoc, ← Nat.mul_add, h1, Nat.mul_add, Nat.mul_add]
  omega

set_option maxHeartbeats 4000000 in
set_option maxRecDepth 100000 in
theorem lessP_r (f : Nat → Nat) (hb : ∀ i, i < 16 → f i < 65536) (n : Nat) (hge : nv f 0 16 = n + PM) (w : World) :
    Calls Try.prog 106 #[.agg (uC 16 f)] w fun e w' => e = .returned (.agg (dC n)) ∧ Chg w w' [] := by
  have B0 : Blk ((w.alloc (.cells (uC 16 f) 84)).alloc (.cells z16 84)) w.heap.size (uC 16 f) 84 := (Blk.new w (uC 16 f) 84).alloc _
  have B1 : Blk ((w.alloc (.cells (uC 16 f) 84)).alloc (.cells z16 84)) (w.heap.size + 1) z16 84 := by have h := Blk.new (w.alloc (.cells (uC 16 f) 84)) z16 84; simpa using h
  have C0 := ((Chg.refl w []).alloc (.cells (uC 16 f) 84)).alloc (.cells z16 84)
  go_enter Try.func106, Try.ntmps106
  go_wp2_with fail
  go_loopw [3, 4] (fun t u wr => ∃ (i : Nat) (g : Nat → Nat) (bw : Nat), i ≤ 16 ∧ t = .int .u64 (bw : Int) ∧ u = .int .i64 (i : Int) ∧ bw ≤ 1 ∧ Blk wr w.heap.size (uC 16 g) 84 ∧ Blk wr (w.heap.size + 1) z16 84 ∧ Chg w wr [] ∧ (∀ j, j < i → g j < 65536) ∧ (∀ j, i ≤ j → g j = f j) ∧ nv f 0 i + 65536 ^ i * bw = nv g 0 i + nv (dg PM) 0 i) (fun _ u _ => (16 - intOf u).toNat)
  case atStart => exact ⟨0, f, 0, by omega, rfl, rfl, by omega, B0, B1, C0, fun j hj => absurd hj (by omega), fun j _ => rfl, by simp [nv]⟩
  case round =>
    obtain ⟨i, g, bw, hi16, rfl, rfl, hbw, b0, b1, c0, hlo, hhi, hv⟩ := hrel
    clear B0 B1 C0
    by_cases hi : i < 16
    · have hiI : (i : Int) < 16 := by omega
      have hgi : g i < 65536 := by rw [hhi i (Nat.le_refl _)]; exact hb i hi
      have hpi := dg_lt PM i
      obtain ⟨xn, hxn⟩ : ∃ x, x + dg PM i + bw = g i + 65536 := ⟨g i + 65536 - dg PM i - bw, by omega⟩
      have hx2 : xn < 131072 := by omega
      have hlow : ∀ j, j < i + 1 → upd g i (xn % 65536) j < 65536 := fun j hj => by
        by_cases e : j = i
        · subst e; rw [upd_same]; omega
        · rw [upd_other _ _ _ _ e]; exact hlo j (by omega)
      have hhigh : ∀ j, i + 1 ≤ j → upd g i (xn % 65536) j = f j := fun j hj => by rw [upd_other _ _ _ _ (by omega)]; exact hhi j (by omega)
      have hval : nv f 0 (i + 1) + 65536 ^ (i + 1) * (1 - xn / 65536) = nv (upd g i (xn % 65536)) 0 (i + 1) + nv (dg PM) 0 (i + 1) := by
        rw [nv_snoc, nv_snoc, nv_snoc, nv_upd_above g i _ 0 i (by omega), Nat.zero_add, upd_same, Nat.pow_succ]
        exact less_step _ _ _ _ xn bw _ _ _ hv (by rw [← hhi i (Nat.le_refl _)]; exact hxn) rfl hx2
      replace hlow : Hid (∀ j, j < i + 1 → upd g i (xn % 65536) j < 65536) := hlow
      replace hhigh : Hid (∀ j, i + 1 ≤ j → upd g i (xn % 65536) j = f j) := hhigh
      replace hval : Hid (nv f 0 (i + 1) + 65536 ^ (i + 1) * (1 - xn / 65536) = nv (upd g i (xn % 65536)) 0 (i + 1) + nv (dg PM) 0 (i + 1)) := hval
      clear hlo hhi hv
      go_wp2_with fail
      refine wp_region_held_drew (S := fun w' => Chg wr w' []) (by kernel_rfl) ((Chg.refl wr []).drew) (fun hHeld => ?_)
      refine take_val (v := ?_) 0 (some 10) rfl (by kernel_rfl) (by kernel_rfl) (by kernel_rfl) (fun _ _ _ h => h) rfl rfl (fun w hSw => ?_) hHeld ?_
      rotate_left
      · (go_simp; try with_reducible rfl)
      try simp only [Act.put, List.setIfInBounds_toArray, List.set_cons_zero, List.set_cons_succ]
      refine take_val (v := ?_) 1 (some 11) rfl (by kernel_rfl) (by kernel_rfl) (by kernel_rfl) (fun _ _ _ h => h) rfl rfl (fun w hSw => ?_) hHeld ?_
      rotate_left
      · (go_simp; try with_reducible rfl)
      try simp only [Act.put, List.setIfInBounds_toArray, List.set_cons_zero, List.set_cons_succ]
      refine take_val (v := ?_) 2 (some 12) rfl (by kernel_rfl) (by kernel_rfl) (by kernel_rfl) (fun _ _ _ h => h) rfl rfl (fun w hSw => ?_) hHeld ?_
      rotate_left
      · have hc := ((b0.chg hSw (by simp)).cell i).trans (uC_get 16 g i hi)
        (go_simp; try with_reducible rfl)
      try simp only [Act.put, List.setIfInBounds_toArray, List.set_cons_zero, List.set_cons_succ]
      refine take_val (v := (.int .u64 ((g i + 65536 : Nat) : Int))) 3 (some 13) rfl (by kernel_rfl) (by kernel_rfl) (by kernel_rfl) (fun _ _ _ h => h) rfl rfl (fun w hSw => ?_) hHeld ?_
      · (go_simp; first | done | (simp only [IntKind.wrap_u64]; omega))
      try simp only [Act.put, List.setIfInBounds_toArray, List.set_cons_zero, List.set_cons_succ]
      refine take_val (v := ?_) 4 (some 14) rfl (by kernel_rfl) (by kernel_rfl) (by kernel_rfl) (fun _ _ _ h => h) rfl rfl (fun w hSw => ?_) hHeld ?_
      rotate_left
      · (go_simp; try with_reducible rfl)
      try simp only [Act.put, List.setIfInBounds_toArray, List.set_cons_zero, List.set_cons_succ]
      refine take_val (v := ?_) 7 (some 17) rfl (by kernel_rfl) (by kernel_rfl) (by kernel_rfl) (fun _ _ _ h => h) rfl rfl (fun w hSw => ?_) hHeld ?_
      rotate_left
      · (go_simp; try with_reducible rfl)
      try simp only [Act.put, List.setIfInBounds_toArray, List.set_cons_zero, List.set_cons_succ]
      refine wpAnyH_ready (rs := [5]) (by kernel_rfl) (by simp) ?_
      refine AllReadyH.cons (o := _) rfl (fun K hK => ?_) ?_
      ·
        go_simp
        refine (prime_r i hi _).mono ?_
        rintro e x1 ⟨rfl, k⟩
        go_wp2_with fail
        refine hK.out _ _ (hHeld.trans1 k) (fun hHeld => ?_)
        clear hK K
        try simp only [Act.put, List.setIfInBounds_toArray, List.set_cons_zero, List.set_cons_succ]
        refine take_val (v := (.int .u64 ((g i + 65536 - dg PM i : Nat) : Int))) 6 (some 16) rfl (by kernel_rfl) (by kernel_rfl) (by kernel_rfl) (fun _ _ _ h => h) rfl rfl (fun w hSw => ?_) hHeld ?_
        · (go_simp; first | done | (simp only [IntKind.wrap_u64]; omega))
        try simp only [Act.put, List.setIfInBounds_toArray, List.set_cons_zero, List.set_cons_succ]
        refine take_val (v := (.int .u64 ((xn : Nat) : Int))) 8 (some 18) rfl (by kernel_rfl) (by kernel_rfl) (by kernel_rfl) (fun _ _ _ h => h) rfl rfl (fun w hSw => ?_) hHeld ?_
        · (go_simp; first | done | (simp only [IntKind.wrap_u64]; omega))
        try simp only [Act.put, List.setIfInBounds_toArray, List.set_cons_zero, List.set_cons_succ]
        refine take_val (v := ?_) 9 (some 5) rfl (by kernel_rfl) (by kernel_rfl) (by kernel_rfl) (fun _ _ _ h => h) rfl rfl (fun w hSw => ?_) hHeld ?_
        rotate_left
        · (go_simp; try with_reducible rfl)
        try simp only [Act.put, List.setIfInBounds_toArray, List.set_cons_zero, List.set_cons_succ]
        refine wpAnyH_done (by kernel_rfl) ?_ _
        have b0' := b0.chg hHeld (by simp)
        have b1' := b1.chg hHeld (by simp)
        have c0' := c0.trans1 hHeld
        have hc := (b0'.cell i).trans (uC_get 16 g i hi)
        have fk := b0'.frozen i
        have hmod : Hid (((xn : Nat) : Int) % 65536 = ((xn % 65536 : Nat) : Int)) := (by omega : ((xn : Nat) : Int) % 65536 = ((xn % 65536 : Nat) : Int))
        have bn : Blk (x1.setCell ⟨w.heap.size, i, none⟩ (.int .u64 (((xn : Nat) : Int) % 65536))) w.heap.size (uC 16 (upd g i (xn % 65536))) 84 := (b0'.setCell i _).to (by rw [hmod.out]; exact uC_set 16 g i _)
        have b1n : Blk (x1.setCell ⟨w.heap.size, i, none⟩ (.int .u64 (((xn : Nat) : Int) % 65536))) (w.heap.size + 1) z16 84 := b1'.setOther (by omega) i _
        have cn : Chg w (x1.setCell ⟨w.heap.size, i, none⟩ (.int .u64 (((xn : Nat) : Int) % 65536))) [] := c0'.new (Chg.of (gb_set (gb_refl x1 _) i _)) (Nat.le_refl _)
        clear b0' b1' c0' b0 b1 c0
        go_wp2_with fail
        go_roundw
        case rel => exact ⟨i + 1, upd g i (xn % 65536), 1 - xn / 65536, by omega, by go_num, by go_num, by omega, bn, b1n, cn, hlow, hhigh, hval⟩
        case measure => simp [intOf]; omega
      exact AllReadyH.nil
    · have hi2 : i = 16 := by omega
      subst hi2
      have hlt : nv g 0 16 < 65536 ^ 16 := nv_lt g 16 0 (fun j _ hj => hlo j (by omega))
      have hres : nv g 0 16 = n := by rw [nv_PM] at hv; omega
      have hC : uC 16 g = dC n := dC_of g hlo _ hres
      rw [hC] at b0
      clear hi hv hlo hhi hC hres hlt
      go_wp2_with (first | (refine wpList_load_row rfl 84 _ rfl w.heap.size rfl 84 _ (0, 0) _ b0 Try.underlying84 rfl (nInfo16 _) ?_) | (refine wpList_store_row rfl 84 _ _ rfl (w.heap.size + 1) _ rfl rfl 84 _ b1 (nInfo16 _) rfl (uC_one _ _) ?_))
      exact bodyPost_ret (results_cell_row Try.results106 _ _ (w.heap.size + 1) 84 (dC n) (0, 0) _ rfl (Blk.setRow b1 _) Try.underlying84 rfl (nInfo16 _)) rfl ⟨rfl, c0.setRowNew (by omega) _⟩

end Go.Proofs.Ytialljmkkichiaa
