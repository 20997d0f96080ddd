/- rimeref02.Neg, Sub, Mul, MulAdd, IsZero, Compare. -/
import Derived.Test.YtcagkcglmcafgaaGreatRMul
set_option linter.unusedVariables false
set_option linter.unusedSimpArgs false
set_option linter.unnecessarySimpa false
namespace Go.Proofs.YtcagkcglmcafgaaGreat
open Go.RowKit N

def adP (x y : Nat) : Nat := (x + y) % LN
def mlP (x y : Nat) : Nat := x * y % LN
def ngP (x : Nat) : Nat := (LN - x % LN) % LN
theorem LN_256 : LN < 115792089237316195423570985008687907853269984665640564039457584007913129639936 := by unfold LN; decide
theorem adP_lt (x y : Nat) : adP x y < 115792089237316195423570985008687907853269984665640564039457584007913129639936 := Nat.lt_trans (Nat.mod_lt _ LN_pos) LN_256
theorem mlP_lt (x y : Nat) : mlP x y < 115792089237316195423570985008687907853269984665640564039457584007913129639936 := Nat.lt_trans (Nat.mod_lt _ LN_pos) LN_256
theorem ngP_lt (x : Nat) : ngP x < 115792089237316195423570985008687907853269984665640564039457584007913129639936 := Nat.lt_trans (Nat.mod_lt _ LN_pos) LN_256
theorem modL_lt (x : Nat) : x % LN < 115792089237316195423570985008687907853269984665640564039457584007913129639936 := Nat.lt_trans (Nat.mod_lt _ LN_pos) LN_256
theorem Add_p (n m : Nat) (hn : n < 115792089237316195423570985008687907853269984665640564039457584007913129639936) (hm : m < 115792089237316195423570985008687907853269984665640564039457584007913129639936) (w : World) : Calls Tryz.prog 10 #[fe (n : Int), fe (m : Int)] w fun e w' => e = .returned (fe ((adP n m : Nat) : Int)) ∧ Chg w w' [] := Add_r n m hn hm w
theorem mul_p (x y : Nat) (hn : x < 115792089237316195423570985008687907853269984665640564039457584007913129639936) (hm : y < 115792089237316195423570985008687907853269984665640564039457584007913129639936) (w : World) : Calls Tryz.prog 79 #[.agg (dC x), .agg (dC y)] w fun e w' => e = .returned (.agg (dC (mlP x y))) ∧ Chg w w' [] := mul_r x y hn hm w
theorem u32InfoE : ∃ i, Tryz.prog.info? 81 = some i := Option.isSome_iff_exists.1 (by kernel_rfl)
theorem u32Cells : Tryz.prog.cellsOf 81 = 1 := by kernel_rfl
theorem NumGuard : Tryz.prog.eqGuardType Tryz.prog.depth 83 = false := by kernel_rfl
def eqD (x y : Nat) : Bool := (List.range 8).all fun i => ((dg x i : Nat) : Int) == ((dg y i : Nat) : Int)
theorem eqD_eq {x y : Nat} (hx : x < 115792089237316195423570985008687907853269984665640564039457584007913129639936) (hy : y < 115792089237316195423570985008687907853269984665640564039457584007913129639936) : eqD x y = decide (x = y) := by
  cases h : eqD x y
  · symm
    rw [decide_eq_false_iff_not]
    intro e
    rw [e] at h
    simp [eqD] at h
  · symm
    rw [decide_eq_true_eq]
    unfold eqD at h
    rw [List.all_eq_true] at h
    have hb : ∀ i, i < 8 → dg x i = dg y i := fun i hi => by have := h i (by simpa using hi); simp at this; omega
    rw [← nv_dg8 x hx, ← nv_dg8 y hy]
    exact nv_congr _ _ 8 0 (fun i _ hi => hb i (by omega))
@[go_sem] theorem eq_Num (x y : Nat) (w : World) : (Op.equalIn 10000 83 (.agg (dC x)) (.agg (dC y))).run Tryz.prog w = .ok (eqD x y) w := by
  obtain ⟨i, hi⟩ := u32InfoE
  rw [show (10000 : Nat) = 9998 + 1 + 1 from rfl, run_equalIn_array w 9999 _ _ Tryz.underlying83 hi, u32Cells]
  exact eqItems_ints w 9998 Tryz.underlying81 _ _ (fun i => ((dg x i : Nat) : Int)) (fun i => ((dg y i : Nat) : Int)) (List.range 8) (fun j hj => ⟨uC_get 8 _ j (by simpa using hj), uC_get 8 _ j (by simpa using hj)⟩)

set_option maxHeartbeats 4000000 in
set_option maxRecDepth 100000 in
theorem Mul_r (n m : Nat) (hn : n < 115792089237316195423570985008687907853269984665640564039457584007913129639936) (hm : m < 115792089237316195423570985008687907853269984665640564039457584007913129639936) (w : World) :
    Calls Tryz.prog 30 #[fe (n : Int), fe (m : Int)] w fun e w' => e = .returned (fe (((mlP (n % LN) (m % LN) : Nat)) : Int)) ∧ Chg w w' [] := by
  have F0 : Blk (((w.alloc (.cells (feC (n : Int)) 24)).alloc (.cells (feC (m : Int)) 24)).alloc (.cells z32 24)) w.heap.size (feC (n : Int)) 24 := by have h := (((Blk.new w (feC (n : Int)) 24).alloc (.cells (feC (m : Int)) 24)).alloc (.cells z32 24)); simpa using h
  have F1 : Blk (((w.alloc (.cells (feC (n : Int)) 24)).alloc (.cells (feC (m : Int)) 24)).alloc (.cells z32 24)) (w.heap.size + 1) (feC (m : Int)) 24 := by have h := ((Blk.new (w.alloc (.cells (feC (n : Int)) 24)) (feC (m : Int)) 24).alloc (.cells z32 24)); simpa using h
  have F2 : Blk (((w.alloc (.cells (feC (n : Int)) 24)).alloc (.cells (feC (m : Int)) 24)).alloc (.cells z32 24)) (w.heap.size + 2) z32 24 := by have h := (Blk.new ((w.alloc (.cells (feC (n : Int)) 24)).alloc (.cells (feC (m : Int)) 24)) z32 24); simpa using h
  have CC : Chg w (((w.alloc (.cells (feC (n : Int)) 24)).alloc (.cells (feC (m : Int)) 24)).alloc (.cells z32 24)) [] := ((((Chg.refl w []).alloc (.cells (feC (n : Int)) 24)).alloc (.cells (feC (m : Int)) 24)).alloc (.cells z32 24))
  go_enter Tryz.func30, Tryz.ntmps30
  go_wp2_with fail
  generalize hv0 : (((w.alloc (.cells (feC (n : Int)) 24)).alloc (.cells (feC (m : Int)) 24)).alloc (.cells z32 24)) = v0 at F0 F1 F2 CC
  change Code.wp _ _ _ _ (((w.alloc (.cells (feC (n : Int)) 24)).alloc (.cells (feC (m : Int)) 24)).alloc (.cells z32 24))
  rw [hv0]
  clear hv0
  refine wp_region_held_drew (S := fun w' => Chg v0 w' [w.heap.size + 2]) (by kernel_rfl) ((Chg.refl v0 _).drew) (fun hHeld => ?_)
  refine take_load 0 (some 5) (feC (n : Int)) rfl (by kernel_rfl) (by kernel_rfl) (by kernel_rfl) (fun _ _ _ h => h) rfl rfl 24 _ rfl w.heap.size rfl 24 _ (fun w h => F0.chg h (by simp)) Tryz.underlying24 rfl (by first | exact feInfo | kernel_rfl) hHeld ?_
  try simp only [Act.put, List.setIfInBounds_toArray, List.set_cons_zero, List.set_cons_succ]
  refine take_load 2 (some 7) (feC (m : Int)) rfl (by kernel_rfl) (by kernel_rfl) (by kernel_rfl) (fun _ _ _ h => h) rfl rfl 24 _ rfl (w.heap.size + 1) rfl 24 _ (fun w h => F1.chg h (by simp)) Tryz.underlying24 rfl (by first | exact feInfo | kernel_rfl) hHeld ?_
  try simp only [Act.put, List.setIfInBounds_toArray, List.set_cons_zero, List.set_cons_succ]
  refine wpAnyH_ready (rs := [1]) (by kernel_rfl) (by simp) ?_
  refine AllReadyH.cons (o := _) rfl (fun K hK => ?_) ?_
  ·
    go_simp
    refine (Value_r n hn _).mono ?_
    rintro e x1 ⟨rfl, k⟩
    replace F2 := F2.drew.chg k (by simp)
    go_wp2_with fail
    refine hK.out _ _ (hHeld.trans1 k.wide) (fun hHeld => ?_)
    clear hK K
    try simp only [Act.put, List.setIfInBounds_toArray, List.set_cons_zero, List.set_cons_succ]
    refine wpAnyH_ready (rs := [3]) (by kernel_rfl) (by simp) ?_
    refine AllReadyH.cons (o := _) rfl (fun K hK => ?_) ?_
    ·
      go_simp
      refine (Value_r m hm _).mono ?_
      rintro e x3 ⟨rfl, k⟩
      replace F2 := F2.chg k (by simp)
      go_wp2_with fail
      refine hK.out _ _ (hHeld.trans1 k.wide) (fun hHeld => ?_)
      clear hK K
      try simp only [Act.put, List.setIfInBounds_toArray, List.set_cons_zero, List.set_cons_succ]
      refine wpAnyH_ready (rs := [4]) (by kernel_rfl) (by simp) ?_
      refine AllReadyH.cons (o := _) rfl (fun K hK => ?_) ?_
      ·
        go_simp
        refine (mul_p _ _ (modL_lt _) (modL_lt _) _).mono ?_
        rintro e x4 ⟨rfl, k⟩
        replace F2 := F2.chg k (by simp)
        go_wp2_with fail
        refine hK.out _ _ (hHeld.trans1 k.wide) (fun hHeld => ?_)
        clear hK K
        try simp only [Act.put, List.setIfInBounds_toArray, List.set_cons_zero, List.set_cons_succ]
        refine wpAnyH_ready (rs := [5]) (by kernel_rfl) (by simp) ?_
        refine AllReadyH.cons (o := _) rfl (fun K hK => ?_) ?_
        ·
          go_simp
          refine (Back_r _ _).mono ?_
          rintro e x5 ⟨rfl, k⟩
          replace F2 := F2.chg k (by simp)
          go_wp2_with fail
          refine hK.out _ _ (hHeld.trans1 k.wide) (fun hHeld => ?_)
          clear hK K
          try simp only [Act.put, List.setIfInBounds_toArray, List.set_cons_zero, List.set_cons_succ]
          refine wpAnyH_ready (rs := [6]) (by kernel_rfl) (by simp) ?_
          refine AllReadyH.cons (o := _) rfl (fun K hK => ?_) ?_
          ·
            rw [if_pos (by rfl)]
            refine wp_store_row 24 _ _ rfl (w.heap.size + 2) _ rfl rfl 24 _ F2 feInfo rfl (feC_one _) ?_
            refine hK.out _ _ (hHeld.trans1 (Chg.of (gb_setRow (gb_refl _ _) _))) (fun hHeld => ?_)
            clear hK K
            try simp only [Act.put, List.setIfInBounds_toArray, List.set_cons_zero, List.set_cons_succ]
            refine wpAnyH_done (by kernel_rfl) ?_ _
            go_wp2_with fail
            exact bodyPost_ret (results_cell_row Tryz.results30 _ _ (w.heap.size + 2) 24 (feC (((mlP (n % LN) (m % LN) : Nat)) : Int)) (0, 0) _ rfl (Blk.setRow F2 _) Tryz.underlying24 rfl feInfo) rfl ⟨rfl, CC.new hHeld (by omega)⟩
          exact AllReadyH.nil
        exact AllReadyH.nil
      exact AllReadyH.nil
    exact AllReadyH.nil
  exact AllReadyH.nil
set_option maxHeartbeats 4000000 in
set_option maxRecDepth 100000 in
theorem MulAdd_r (n m c : Nat) (hn : n < 115792089237316195423570985008687907853269984665640564039457584007913129639936) (hm : m < 115792089237316195423570985008687907853269984665640564039457584007913129639936) (hc : c < 115792089237316195423570985008687907853269984665640564039457584007913129639936) (w : World) :
    Calls Tryz.prog 11 #[fe (n : Int), fe (m : Int), fe (c : Int)] w fun e w' => e = .returned (fe (((adP (mlP (n % LN) (m % LN)) c : Nat)) : Int)) ∧ Chg w w' [] := by
  have F0 : Blk ((((w.alloc (.cells (feC (n : Int)) 24)).alloc (.cells (feC (m : Int)) 24)).alloc (.cells (feC (c : Int)) 24)).alloc (.cells z32 24)) w.heap.size (feC (n : Int)) 24 := by have h := ((((Blk.new w (feC (n : Int)) 24).alloc (.cells (feC (m : Int)) 24)).alloc (.cells (feC (c : Int)) 24)).alloc (.cells z32 24)); simpa using h
  have F1 : Blk ((((w.alloc (.cells (feC (n : Int)) 24)).alloc (.cells (feC (m : Int)) 24)).alloc (.cells (feC (c : Int)) 24)).alloc (.cells z32 24)) (w.heap.size + 1) (feC (m : Int)) 24 := by have h := (((Blk.new (w.alloc (.cells (feC (n : Int)) 24)) (feC (m : Int)) 24).alloc (.cells (feC (c : Int)) 24)).alloc (.cells z32 24)); simpa using h
  have F2 : Blk ((((w.alloc (.cells (feC (n : Int)) 24)).alloc (.cells (feC (m : Int)) 24)).alloc (.cells (feC (c : Int)) 24)).alloc (.cells z32 24)) (w.heap.size + 2) (feC (c : Int)) 24 := by have h := ((Blk.new ((w.alloc (.cells (feC (n : Int)) 24)).alloc (.cells (feC (m : Int)) 24)) (feC (c : Int)) 24).alloc (.cells z32 24)); simpa using h
  have F3 : Blk ((((w.alloc (.cells (feC (n : Int)) 24)).alloc (.cells (feC (m : Int)) 24)).alloc (.cells (feC (c : Int)) 24)).alloc (.cells z32 24)) (w.heap.size + 3) z32 24 := by have h := (Blk.new (((w.alloc (.cells (feC (n : Int)) 24)).alloc (.cells (feC (m : Int)) 24)).alloc (.cells (feC (c : Int)) 24)) z32 24); simpa using h
  have CC : Chg w ((((w.alloc (.cells (feC (n : Int)) 24)).alloc (.cells (feC (m : Int)) 24)).alloc (.cells (feC (c : Int)) 24)).alloc (.cells z32 24)) [] := (((((Chg.refl w []).alloc (.cells (feC (n : Int)) 24)).alloc (.cells (feC (m : Int)) 24)).alloc (.cells (feC (c : Int)) 24)).alloc (.cells z32 24))
  go_enter Tryz.func11, Tryz.ntmps11
  go_wp2_with fail
  generalize hv0 : ((((w.alloc (.cells (feC (n : Int)) 24)).alloc (.cells (feC (m : Int)) 24)).alloc (.cells (feC (c : Int)) 24)).alloc (.cells z32 24)) = v0 at F0 F1 F2 F3 CC
  change Code.wp _ _ _ _ ((((w.alloc (.cells (feC (n : Int)) 24)).alloc (.cells (feC (m : Int)) 24)).alloc (.cells (feC (c : Int)) 24)).alloc (.cells z32 24))
  rw [hv0]
  clear hv0
  refine wp_region_held_drew (S := fun w' => Chg v0 w' [w.heap.size + 3]) (by kernel_rfl) ((Chg.refl v0 _).drew) (fun hHeld => ?_)
  refine take_load 0 (some 7) (feC (n : Int)) rfl (by kernel_rfl) (by kernel_rfl) (by kernel_rfl) (fun _ _ _ h => h) rfl rfl 24 _ rfl w.heap.size rfl 24 _ (fun w h => F0.chg h (by simp)) Tryz.underlying24 rfl (by first | exact feInfo | kernel_rfl) hHeld ?_
  try simp only [Act.put, List.setIfInBounds_toArray, List.set_cons_zero, List.set_cons_succ]
  refine take_load 1 (some 8) (feC (m : Int)) rfl (by kernel_rfl) (by kernel_rfl) (by kernel_rfl) (fun _ _ _ h => h) rfl rfl 24 _ rfl (w.heap.size + 1) rfl 24 _ (fun w h => F1.chg h (by simp)) Tryz.underlying24 rfl (by first | exact feInfo | kernel_rfl) hHeld ?_
  try simp only [Act.put, List.setIfInBounds_toArray, List.set_cons_zero, List.set_cons_succ]
  refine take_load 3 (some 10) (feC (c : Int)) rfl (by kernel_rfl) (by kernel_rfl) (by kernel_rfl) (fun _ _ _ h => h) rfl rfl 24 _ rfl (w.heap.size + 2) rfl 24 _ (fun w h => F2.chg h (by simp)) Tryz.underlying24 rfl (by first | exact feInfo | kernel_rfl) hHeld ?_
  try simp only [Act.put, List.setIfInBounds_toArray, List.set_cons_zero, List.set_cons_succ]
  refine wpAnyH_ready (rs := [2]) (by kernel_rfl) (by simp) ?_
  refine AllReadyH.cons (o := _) rfl (fun K hK => ?_) ?_
  ·
    go_simp
    refine (Mul_r n m hn hm _).mono ?_
    rintro e x2 ⟨rfl, k⟩
    replace F3 := F3.drew.chg k (by simp)
    go_wp2_with fail
    refine hK.out _ _ (hHeld.trans1 k.wide) (fun hHeld => ?_)
    clear hK K
    try simp only [Act.put, List.setIfInBounds_toArray, List.set_cons_zero, List.set_cons_succ]
    refine wpAnyH_ready (rs := [4]) (by kernel_rfl) (by simp) ?_
    refine AllReadyH.cons (o := _) rfl (fun K hK => ?_) ?_
    ·
      go_simp
      refine (Add_p _ c (mlP_lt _ _) hc _).mono ?_
      rintro e x4 ⟨rfl, k⟩
      replace F3 := F3.chg k (by simp)
      go_wp2_with fail
      refine hK.out _ _ (hHeld.trans1 k.wide) (fun hHeld => ?_)
      clear hK K
      try simp only [Act.put, List.setIfInBounds_toArray, List.set_cons_zero, List.set_cons_succ]
      refine wpAnyH_ready (rs := [5]) (by kernel_rfl) (by simp) ?_
      refine AllReadyH.cons (o := _) rfl (fun K hK => ?_) ?_
      ·
        rw [if_pos (by rfl)]
        refine wp_store_row 24 _ _ rfl (w.heap.size + 3) _ rfl rfl 24 _ F3 feInfo rfl (feC_one _) ?_
        refine hK.out _ _ (hHeld.trans1 (Chg.of (gb_setRow (gb_refl _ _) _))) (fun hHeld => ?_)
        clear hK K
        try simp only [Act.put, List.setIfInBounds_toArray, List.set_cons_zero, List.set_cons_succ]
        refine wpAnyH_done (by kernel_rfl) ?_ _
        go_wp2_with fail
        exact bodyPost_ret (results_cell_row Tryz.results11 _ _ (w.heap.size + 3) 24 (feC (((adP (mlP (n % LN) (m % LN)) c : Nat)) : Int)) (0, 0) _ rfl (Blk.setRow F3 _) Tryz.underlying24 rfl feInfo) rfl ⟨rfl, CC.new hHeld (by omega)⟩
      exact AllReadyH.nil
    exact AllReadyH.nil
  exact AllReadyH.nil
end Go.Proofs.YtcagkcglmcafgaaGreat
