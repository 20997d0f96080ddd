/- The document's answer: Add, Sub, Neg, Double, Mul, Square, Equal, Select. -/
import Derived.Test.YtialljmkkichiaaRMul
import Derived.Test.YtialljmkkichiaaFun3
set_option linter.unusedVariables false
set_option linter.unusedSimpArgs false
set_option linter.unnecessarySimpa false
namespace Go.Proofs.Ytialljmkkichiaa
open Go.RowKit N

def adP (x y : Nat) : Nat := (x + y) % PM
def ngP (x : Nat) : Nat := (PM - x) % PM
def mlP (x y : Nat) : Nat := x * y % PM
theorem add_p (x y : Nat) (hx : x < 115792089237316195423570985008687907853269984665640564039457584007913129639936) (hy : y < 115792089237316195423570985008687907853269984665640564039457584007913129639936) (w : World) :
    Calls Try.prog 86 #[.agg (dC x), .agg (dC y)] w fun e w' => e = .returned (.agg (dC (adP x y))) ∧ Chg w w' [] := add_r x y hx hy w
theorem mul_p (x y : Nat) (hx : x < 115792089237316195423570985008687907853269984665640564039457584007913129639936) (hy : y < 115792089237316195423570985008687907853269984665640564039457584007913129639936) (w : World) :
    Calls Try.prog 90 #[.agg (dC x), .agg (dC y)] w fun e w' => e = .returned (.agg (dC (mlP x y))) ∧ Chg w w' [] := mul_r x y hx hy w
theorem neg_p (x : Nat) (hx : x < PM) (w : World) : Calls Try.prog 88 #[.agg (dC x)] w fun e w' => e = .returned (.agg (dC (ngP x))) ∧ Chg w w' [] := neg_r x hx w
theorem radd (a b : Int) (ha : 0 ≤ a) (hb : 0 ≤ b) : ((adP (rd a) (rd b) : Nat) : Int) = (a + b) % P := by
  unfold adP
  rw [Int.natCast_emod, Int.natCast_add, rd_int a ha, rd_int b hb, PM_eq, ← Int.add_emod]
theorem rmul (a b : Int) (ha : 0 ≤ a) (hb : 0 ≤ b) : ((mlP (rd a) (rd b) : Nat) : Int) = a * b % P := by
  unfold mlP
  rw [Int.natCast_emod, Int.natCast_mul, rd_int a ha, rd_int b hb, PM_eq, ← Int.mul_emod]
theorem rneg (a : Int) (ha : 0 ≤ a) : ((ngP (rd a) : Nat) : Int) = -a % P := by
  unfold ngP
  have h := Nat.le_of_lt (rd_lt a)
  rw [Int.natCast_emod, Int.natCast_sub h, rd_int a ha, PM_eq, Int.sub_emod, Int.emod_self, Int.emod_emod_of_dvd _ (Int.dvd_refl P)]
  rw [show -a = 0 - a by omega, Int.sub_emod 0 a]
  rfl
theorem rsub (a b : Int) (ha : 0 ≤ a) (hb : 0 ≤ b) : ((adP (rd a) (ngP (rd b)) : Nat) : Int) = (a - b) % P := by
  unfold adP
  rw [Int.natCast_emod, Int.natCast_add, rd_int a ha, rneg b hb, PM_eq, ← Int.add_emod]
  rfl
theorem rd256 (a : Int) : rd a < 115792089237316195423570985008687907853269984665640564039457584007913129639936 := by have := rd_lt a; unfold PM at this; omega
theorem ng256 (n : Nat) : ngP n < 115792089237316195423570985008687907853269984665640564039457584007913129639936 := by have h : ngP n < PM := Nat.mod_lt _ (by unfold PM; decide); generalize ngP n = q at *; unfold PM at h; omega

/-! ### == on sixteen digits -/
theorem numGuard : Try.prog.eqGuardType Try.prog.depth 84 = false := by kernel_rfl
theorem u64InfoS : ∃ i, Try.prog.info? 25 = some i := Option.isSome_iff_exists.1 (by kernel_rfl)
theorem u64Cells1 : Try.prog.cellsOf 25 = 1 := by kernel_rfl
def eqn (n m : Nat) : Bool := (List.range 16).all fun i => ((dg n i : Nat) : Int) == ((dg m i : Nat) : Int)
theorem eqn_eq (n m : Nat) (hn : n < 115792089237316195423570985008687907853269984665640564039457584007913129639936) (hm : m < 115792089237316195423570985008687907853269984665640564039457584007913129639936) : eqn n m = decide (n = m) := by
  by_cases e : n = m
  · subst e; simp [eqn]
  · rw [decide_eq_false e]
    cases h : eqn n m
    · rfl
    · exfalso
      unfold eqn at h
      rw [List.all_eq_true] at h
      apply e
      rw [← nv_dg16 n hn, ← nv_dg16 m hm]
      refine nv_congr _ _ 16 0 (fun i _ hi => ?_)
      have h1 := h i (by rw [List.mem_range]; omega)
      have h2 : ((dg n i : Nat) : Int) = ((dg m i : Nat) : Int) := by simpa using h1
      omega
@[go_sem] theorem eq_num (n m : Nat) (w : World) : (Op.equalIn 10000 84 (.agg (dC n)) (.agg (dC m))).run Try.prog w = .ok (eqn n m) w := by
  obtain ⟨i, hi⟩ := u64InfoS
  rw [show (10000 : Nat) = 9998 + 1 + 1 from rfl, run_equalIn_array w 9999 _ _ Try.underlying84 hi, u64Cells1]
  exact eqItems_ints w 9998 Try.underlying25 _ _ (fun i => ((dg n i : Nat) : Int)) (fun i => ((dg m i : Nat) : Int)) (List.range 16) (fun j hj => ⟨uC_get 16 _ j (by simpa using hj), uC_get 16 _ j (by simpa using hj)⟩)
theorem eqn_eqf (a b : Int) (ra : R256 a) (rb : R256 b) : eqn (rd a) (rd b) = eqf (a % P) (b % P) := by
  rw [eqn_eq _ _ (rd256 a) (rd256 b), eqf_eq (r256_mod a) (r256_mod b), decide_eq_decide, ← rd_int a ra.1, ← rd_int b rb.1]
  omega

set_option maxHeartbeats 4000000 in
set_option maxRecDepth 100000 in
theorem Add_r (a b : Int) (ra : R256 a) (rb : R256 b) (w : World) : Calls Try.prog 22 #[fe a, fe b] w fun e w' => e = .returned (fe ((a + b) % P)) ∧ Chg w w' [] := by
  have F0 : Blk (((w.alloc (.cells (feC a) 24)).alloc (.cells (feC b) 24)).alloc (.cells z32 24)) w.heap.size (feC a) 24 := ((Blk.new w (feC a) 24).alloc _).alloc _
  have F1 : Blk (((w.alloc (.cells (feC a) 24)).alloc (.cells (feC b) 24)).alloc (.cells z32 24)) (w.heap.size + 1) (feC b) 24 := by have h := (Blk.new (w.alloc (.cells (feC a) 24)) (feC b) 24).alloc (.cells z32 24); simpa using h
  have F2 : Blk (((w.alloc (.cells (feC a) 24)).alloc (.cells (feC b) 24)).alloc (.cells z32 24)) (w.heap.size + 1 + 1) z32 24 := by have h := Blk.new ((w.alloc (.cells (feC a) 24)).alloc (.cells (feC b) 24)) z32 24; simpa using h
  have C0 := (((Chg.refl w []).alloc (.cells (feC a) 24)).alloc (.cells (feC b) 24)).alloc (.cells z32 24)
  go_enter Try.func22, Try.ntmps22
  go_wp2_with fail
  generalize hv0 : (((w.alloc (.cells (feC a) 24)).alloc (.cells (feC b) 24)).alloc (.cells z32 24)) = v0 at F0 F1 F2 C0
  try (change Code.wp _ _ _ _ (((w.alloc (.cells (feC a) 24)).alloc (.cells (feC b) 24)).alloc (.cells z32 24)); rw [hv0])
  clear hv0
  replace F2 := F2.drew
  refine wp_region_held_drew (S := fun w' => Blk w' w.heap.size (feC a) 24 ∧ Blk w' (w.heap.size + 1) (feC b) 24 ∧ Chg w w' []) (by kernel_rfl) (⟨F0.drew, F1.drew, C0.drew⟩) (fun hHeld => ?_)
  refine take_load 0 (some 5) (feC a) rfl (by kernel_rfl) (by kernel_rfl) (by kernel_rfl) (fun _ _ _ h => h) rfl rfl 24 _ rfl w.heap.size rfl 24 _ (fun w h => h.1) Try.underlying24 rfl (by first | exact feInfo | kernel_rfl) hHeld ?_
  try simp only [Act.put, List.setIfInBounds_toArray, List.set_cons_zero, List.set_cons_succ]
  refine take_load 2 (some 7) (feC b) rfl (by kernel_rfl) (by kernel_rfl) (by kernel_rfl) (fun _ _ _ h => h) rfl rfl 24 _ rfl (w.heap.size + 1) rfl 24 _ (fun w h => h.2.1) Try.underlying24 rfl (by first | exact feInfo | kernel_rfl) hHeld ?_
  try simp only [Act.put, List.setIfInBounds_toArray, List.set_cons_zero, List.set_cons_succ]
  refine wpAnyH_ready (rs := [1]) (by kernel_rfl) (by simp) ?_
  refine AllReadyH.cons (o := _) rfl (fun K hK => ?_) ?_
  ·
    go_simp
    refine (Value_r a ra _).mono ?_
    rintro e x1 ⟨rfl, k⟩
    replace F2 := F2.chg k (by simp)
    go_wp2_with fail
    refine hK.out _ _ (⟨hHeld.1.chg k (by simp), hHeld.2.1.chg k (by simp), hHeld.2.2.trans1 k⟩) (fun hHeld => ?_)
    clear hK K
    try simp only [Act.put, List.setIfInBounds_toArray, List.set_cons_zero, List.set_cons_succ]
    refine wpAnyH_ready (rs := [3]) (by kernel_rfl) (by simp) ?_
    refine AllReadyH.cons (o := _) rfl (fun K hK => ?_) ?_
    ·
      go_simp
      refine (Value_r b rb _).mono ?_
      rintro e x3 ⟨rfl, k⟩
      replace F2 := F2.chg k (by simp)
      go_wp2_with fail
      refine hK.out _ _ (⟨hHeld.1.chg k (by simp), hHeld.2.1.chg k (by simp), hHeld.2.2.trans1 k⟩) (fun hHeld => ?_)
      clear hK K
      try simp only [Act.put, List.setIfInBounds_toArray, List.set_cons_zero, List.set_cons_succ]
      refine wpAnyH_ready (rs := [4]) (by kernel_rfl) (by simp) ?_
      refine AllReadyH.cons (o := _) rfl (fun K hK => ?_) ?_
      ·
        go_simp
        refine (add_p (rd a) (rd b) (rd256 a) (rd256 b) _).mono ?_
        rintro e x4 ⟨rfl, k⟩
        replace F2 := F2.chg k (by simp)
        go_wp2_with fail
        refine hK.out _ _ (⟨hHeld.1.chg k (by simp), hHeld.2.1.chg k (by simp), hHeld.2.2.trans1 k⟩) (fun hHeld => ?_)
        clear hK K
        try simp only [Act.put, List.setIfInBounds_toArray, List.set_cons_zero, List.set_cons_succ]
        refine wpAnyH_ready (rs := [5]) (by kernel_rfl) (by simp) ?_
        refine AllReadyH.cons (o := _) rfl (fun K hK => ?_) ?_
        ·
          go_simp
          refine (Back_r (adP (rd a) (rd b)) _).mono ?_
          rintro e x5 ⟨rfl, k⟩
          rw [radd a b ra.1 rb.1]
          replace F2 := F2.chg k (by simp)
          go_wp2_with fail
          refine hK.out _ _ (⟨hHeld.1.chg k (by simp), hHeld.2.1.chg k (by simp), hHeld.2.2.trans1 k⟩) (fun hHeld => ?_)
          clear hK K
          try simp only [Act.put, List.setIfInBounds_toArray, List.set_cons_zero, List.set_cons_succ]
          refine wpAnyH_ready (rs := [6]) (by kernel_rfl) (by simp) ?_
          refine AllReadyH.cons (o := _) rfl (fun K hK => ?_) ?_
          ·
            rw [if_pos (by rfl)]
            refine wp_store_row 24 _ _ rfl (w.heap.size + 1 + 1) _ rfl rfl 24 _ F2 feInfo rfl (feC_one _) ?_
            refine hK.out _ _ (⟨hHeld.1.setRowOther (by omega) _, hHeld.2.1.setRowOther (by omega) _, hHeld.2.2.setRowNew (by omega) _⟩) (fun hHeld => ?_)
            clear hK K
            try simp only [Act.put, List.setIfInBounds_toArray, List.set_cons_zero, List.set_cons_succ]
            refine wpAnyH_done (by kernel_rfl) ?_ _
            go_wp2_with fail
            exact bodyPost_ret (results_cell_row Try.results22 _ _ (w.heap.size + 1 + 1) 24 (feC ((a + b) % P)) (0, 0) _ rfl (Blk.setRow F2 _) Try.underlying24 rfl feInfo) rfl ⟨rfl, hHeld.2.2⟩
          exact AllReadyH.nil
        exact AllReadyH.nil
      exact AllReadyH.nil
    exact AllReadyH.nil
  exact AllReadyH.nil

set_option maxHeartbeats 4000000 in
set_option maxRecDepth 100000 in
theorem Sub_r (a b : Int) (ra : R256 a) (rb : R256 b) (w : World) : Calls Try.prog 24 #[fe a, fe b] w fun e w' => e = .returned (fe ((a - b) % P)) ∧ Chg w w' [] := by
  have F0 : Blk (((w.alloc (.cells (feC a) 24)).alloc (.cells (feC b) 24)).alloc (.cells z32 24)) w.heap.size (feC a) 24 := ((Blk.new w (feC a) 24).alloc _).alloc _
  have F1 : Blk (((w.alloc (.cells (feC a) 24)).alloc (.cells (feC b) 24)).alloc (.cells z32 24)) (w.heap.size + 1) (feC b) 24 := by have h := (Blk.new (w.alloc (.cells (feC a) 24)) (feC b) 24).alloc (.cells z32 24); simpa using h
  have F2 : Blk (((w.alloc (.cells (feC a) 24)).alloc (.cells (feC b) 24)).alloc (.cells z32 24)) (w.heap.size + 1 + 1) z32 24 := by have h := Blk.new ((w.alloc (.cells (feC a) 24)).alloc (.cells (feC b) 24)) z32 24; simpa using h
  have C0 := (((Chg.refl w []).alloc (.cells (feC a) 24)).alloc (.cells (feC b) 24)).alloc (.cells z32 24)
  go_enter Try.func24, Try.ntmps24
  go_wp2_with fail
  generalize hv0 : (((w.alloc (.cells (feC a) 24)).alloc (.cells (feC b) 24)).alloc (.cells z32 24)) = v0 at F0 F1 F2 C0
  try (change Code.wp _ _ _ _ (((w.alloc (.cells (feC a) 24)).alloc (.cells (feC b) 24)).alloc (.cells z32 24)); rw [hv0])
  clear hv0
  replace F2 := F2.drew
  refine wp_region_held_drew (S := fun w' => Blk w' w.heap.size (feC a) 24 ∧ Blk w' (w.heap.size + 1) (feC b) 24 ∧ Chg w w' []) (by kernel_rfl) (⟨F0.drew, F1.drew, C0.drew⟩) (fun hHeld => ?_)
  refine take_load 0 (some 5) (feC a) rfl (by kernel_rfl) (by kernel_rfl) (by kernel_rfl) (fun _ _ _ h => h) rfl rfl 24 _ rfl w.heap.size rfl 24 _ (fun w h => h.1) Try.underlying24 rfl (by first | exact feInfo | kernel_rfl) hHeld ?_
  try simp only [Act.put, List.setIfInBounds_toArray, List.set_cons_zero, List.set_cons_succ]
  refine take_load 2 (some 7) (feC b) rfl (by kernel_rfl) (by kernel_rfl) (by kernel_rfl) (fun _ _ _ h => h) rfl rfl 24 _ rfl (w.heap.size + 1) rfl 24 _ (fun w h => h.2.1) Try.underlying24 rfl (by first | exact feInfo | kernel_rfl) hHeld ?_
  try simp only [Act.put, List.setIfInBounds_toArray, List.set_cons_zero, List.set_cons_succ]
  refine wpAnyH_ready (rs := [1]) (by kernel_rfl) (by simp) ?_
  refine AllReadyH.cons (o := _) rfl (fun K hK => ?_) ?_
  ·
    go_simp
    refine (Value_r a ra _).mono ?_
    rintro e x1 ⟨rfl, k⟩
    replace F2 := F2.chg k (by simp)
    go_wp2_with fail
    refine hK.out _ _ (⟨hHeld.1.chg k (by simp), hHeld.2.1.chg k (by simp), hHeld.2.2.trans1 k⟩) (fun hHeld => ?_)
    clear hK K
    try simp only [Act.put, List.setIfInBounds_toArray, List.set_cons_zero, List.set_cons_succ]
    refine wpAnyH_ready (rs := [3]) (by kernel_rfl) (by simp) ?_
    refine AllReadyH.cons (o := _) rfl (fun K hK => ?_) ?_
    ·
      go_simp
      refine (Value_r b rb _).mono ?_
      rintro e x3 ⟨rfl, k⟩
      replace F2 := F2.chg k (by simp)
      go_wp2_with fail
      refine hK.out _ _ (⟨hHeld.1.chg k (by simp), hHeld.2.1.chg k (by simp), hHeld.2.2.trans1 k⟩) (fun hHeld => ?_)
      clear hK K
      try simp only [Act.put, List.setIfInBounds_toArray, List.set_cons_zero, List.set_cons_succ]
      refine wpAnyH_ready (rs := [4]) (by kernel_rfl) (by simp) ?_
      refine AllReadyH.cons (o := _) rfl (fun K hK => ?_) ?_
      ·
        go_simp
        refine (neg_p (rd b) (rd_lt b) _).mono ?_
        rintro e x4 ⟨rfl, k⟩
        replace F2 := F2.chg k (by simp)
        go_wp2_with fail
        refine hK.out _ _ (⟨hHeld.1.chg k (by simp), hHeld.2.1.chg k (by simp), hHeld.2.2.trans1 k⟩) (fun hHeld => ?_)
        clear hK K
        try simp only [Act.put, List.setIfInBounds_toArray, List.set_cons_zero, List.set_cons_succ]
        refine wpAnyH_ready (rs := [5]) (by kernel_rfl) (by simp) ?_
        refine AllReadyH.cons (o := _) rfl (fun K hK => ?_) ?_
        ·
          go_simp
          refine (add_p (rd a) (ngP (rd b)) (rd256 a) (ng256 _) _).mono ?_
          rintro e x5 ⟨rfl, k⟩
          replace F2 := F2.chg k (by simp)
          go_wp2_with fail
          refine hK.out _ _ (⟨hHeld.1.chg k (by simp), hHeld.2.1.chg k (by simp), hHeld.2.2.trans1 k⟩) (fun hHeld => ?_)
          clear hK K
          try simp only [Act.put, List.setIfInBounds_toArray, List.set_cons_zero, List.set_cons_succ]
          refine wpAnyH_ready (rs := [6]) (by kernel_rfl) (by simp) ?_
          refine AllReadyH.cons (o := _) rfl (fun K hK => ?_) ?_
          ·
            go_simp
            refine (Back_r (adP (rd a) (ngP (rd b))) _).mono ?_
            rintro e x6 ⟨rfl, k⟩
            rw [rsub a b ra.1 rb.1]
            replace F2 := F2.chg k (by simp)
            go_wp2_with fail
            refine hK.out _ _ (⟨hHeld.1.chg k (by simp), hHeld.2.1.chg k (by simp), hHeld.2.2.trans1 k⟩) (fun hHeld => ?_)
            clear hK K
            try simp only [Act.put, List.setIfInBounds_toArray, List.set_cons_zero, List.set_cons_succ]
            refine wpAnyH_ready (rs := [7]) (by kernel_rfl) (by simp) ?_
            refine AllReadyH.cons (o := _) rfl (fun K hK => ?_) ?_
            ·
              rw [if_pos (by rfl)]
              refine wp_store_row 24 _ _ rfl (w.heap.size + 1 + 1) _ rfl rfl 24 _ F2 feInfo rfl (feC_one _) ?_
              refine hK.out _ _ (⟨hHeld.1.setRowOther (by omega) _, hHeld.2.1.setRowOther (by omega) _, hHeld.2.2.setRowNew (by omega) _⟩) (fun hHeld => ?_)
              clear hK K
              try simp only [Act.put, List.setIfInBounds_toArray, List.set_cons_zero, List.set_cons_succ]
              refine wpAnyH_done (by kernel_rfl) ?_ _
              go_wp2_with fail
              exact bodyPost_ret (results_cell_row Try.results24 _ _ (w.heap.size + 1 + 1) 24 (feC ((a - b) % P)) (0, 0) _ rfl (Blk.setRow F2 _) Try.underlying24 rfl feInfo) rfl ⟨rfl, hHeld.2.2⟩
            exact AllReadyH.nil
          exact AllReadyH.nil
        exact AllReadyH.nil
      exact AllReadyH.nil
    exact AllReadyH.nil
  exact AllReadyH.nil

set_option maxHeartbeats 4000000 in
set_option maxRecDepth 100000 in
theorem Mul_r (a b : Int) (ra : R256 a) (rb : R256 b) (w : World) : Calls Try.prog 30 #[fe a, fe b] w fun e w' => e = .returned (fe (a * b % P)) ∧ Chg w w' [] := by
  have F0 : Blk (((w.alloc (.cells (feC a) 24)).alloc (.cells (feC b) 24)).alloc (.cells z32 24)) w.heap.size (feC a) 24 := ((Blk.new w (feC a) 24).alloc _).alloc _
  have F1 : Blk (((w.alloc (.cells (feC a) 24)).alloc (.cells (feC b) 24)).alloc (.cells z32 24)) (w.heap.size + 1) (feC b) 24 := by have h := (Blk.new (w.alloc (.cells (feC a) 24)) (feC b) 24).alloc (.cells z32 24); simpa using h
  have F2 : Blk (((w.alloc (.cells (feC a) 24)).alloc (.cells (feC b) 24)).alloc (.cells z32 24)) (w.heap.size + 1 + 1) z32 24 := by have h := Blk.new ((w.alloc (.cells (feC a) 24)).alloc (.cells (feC b) 24)) z32 24; simpa using h
  have C0 := (((Chg.refl w []).alloc (.cells (feC a) 24)).alloc (.cells (feC b) 24)).alloc (.cells z32 24)
  go_enter Try.func30, Try.ntmps30
  go_wp2_with fail
  generalize hv0 : (((w.alloc (.cells (feC a) 24)).alloc (.cells (feC b) 24)).alloc (.cells z32 24)) = v0 at F0 F1 F2 C0
  try (change Code.wp _ _ _ _ (((w.alloc (.cells (feC a) 24)).alloc (.cells (feC b) 24)).alloc (.cells z32 24)); rw [hv0])
  clear hv0
  replace F2 := F2.drew
  refine wp_region_held_drew (S := fun w' => Blk w' w.heap.size (feC a) 24 ∧ Blk w' (w.heap.size + 1) (feC b) 24 ∧ Chg w w' []) (by kernel_rfl) (⟨F0.drew, F1.drew, C0.drew⟩) (fun hHeld => ?_)
  refine take_load 0 (some 5) (feC a) rfl (by kernel_rfl) (by kernel_rfl) (by kernel_rfl) (fun _ _ _ h => h) rfl rfl 24 _ rfl w.heap.size rfl 24 _ (fun w h => h.1) Try.underlying24 rfl (by first | exact feInfo | kernel_rfl) hHeld ?_
  try simp only [Act.put, List.setIfInBounds_toArray, List.set_cons_zero, List.set_cons_succ]
  refine take_load 2 (some 7) (feC b) rfl (by kernel_rfl) (by kernel_rfl) (by kernel_rfl) (fun _ _ _ h => h) rfl rfl 24 _ rfl (w.heap.size + 1) rfl 24 _ (fun w h => h.2.1) Try.underlying24 rfl (by first | exact feInfo | kernel_rfl) hHeld ?_
  try simp only [Act.put, List.setIfInBounds_toArray, List.set_cons_zero, List.set_cons_succ]
  refine wpAnyH_ready (rs := [1]) (by kernel_rfl) (by simp) ?_
  refine AllReadyH.cons (o := _) rfl (fun K hK => ?_) ?_
  ·
    go_simp
    refine (Value_r a ra _).mono ?_
    rintro e x1 ⟨rfl, k⟩
    replace F2 := F2.chg k (by simp)
    go_wp2_with fail
    refine hK.out _ _ (⟨hHeld.1.chg k (by simp), hHeld.2.1.chg k (by simp), hHeld.2.2.trans1 k⟩) (fun hHeld => ?_)
    clear hK K
    try simp only [Act.put, List.setIfInBounds_toArray, List.set_cons_zero, List.set_cons_succ]
    refine wpAnyH_ready (rs := [3]) (by kernel_rfl) (by simp) ?_
    refine AllReadyH.cons (o := _) rfl (fun K hK => ?_) ?_
    ·
      go_simp
      refine (Value_r b rb _).mono ?_
      rintro e x3 ⟨rfl, k⟩
      replace F2 := F2.chg k (by simp)
      go_wp2_with fail
      refine hK.out _ _ (⟨hHeld.1.chg k (by simp), hHeld.2.1.chg k (by simp), hHeld.2.2.trans1 k⟩) (fun hHeld => ?_)
      clear hK K
      try simp only [Act.put, List.setIfInBounds_toArray, List.set_cons_zero, List.set_cons_succ]
      refine wpAnyH_ready (rs := [4]) (by kernel_rfl) (by simp) ?_
      refine AllReadyH.cons (o := _) rfl (fun K hK => ?_) ?_
      ·
        go_simp
        refine (mul_p (rd a) (rd b) (rd256 a) (rd256 b) _).mono ?_
        rintro e x4 ⟨rfl, k⟩
        replace F2 := F2.chg k (by simp)
        go_wp2_with fail
        refine hK.out _ _ (⟨hHeld.1.chg k (by simp), hHeld.2.1.chg k (by simp), hHeld.2.2.trans1 k⟩) (fun hHeld => ?_)
        clear hK K
        try simp only [Act.put, List.setIfInBounds_toArray, List.set_cons_zero, List.set_cons_succ]
        refine wpAnyH_ready (rs := [5]) (by kernel_rfl) (by simp) ?_
        refine AllReadyH.cons (o := _) rfl (fun K hK => ?_) ?_
        ·
          go_simp
          refine (Back_r (mlP (rd a) (rd b)) _).mono ?_
          rintro e x5 ⟨rfl, k⟩
          rw [rmul a b ra.1 rb.1]
          replace F2 := F2.chg k (by simp)
          go_wp2_with fail
          refine hK.out _ _ (⟨hHeld.1.chg k (by simp), hHeld.2.1.chg k (by simp), hHeld.2.2.trans1 k⟩) (fun hHeld => ?_)
          clear hK K
          try simp only [Act.put, List.setIfInBounds_toArray, List.set_cons_zero, List.set_cons_succ]
          refine wpAnyH_ready (rs := [6]) (by kernel_rfl) (by simp) ?_
          refine AllReadyH.cons (o := _) rfl (fun K hK => ?_) ?_
          ·
            rw [if_pos (by rfl)]
            refine wp_store_row 24 _ _ rfl (w.heap.size + 1 + 1) _ rfl rfl 24 _ F2 feInfo rfl (feC_one _) ?_
            refine hK.out _ _ (⟨hHeld.1.setRowOther (by omega) _, hHeld.2.1.setRowOther (by omega) _, hHeld.2.2.setRowNew (by omega) _⟩) (fun hHeld => ?_)
            clear hK K
            try simp only [Act.put, List.setIfInBounds_toArray, List.set_cons_zero, List.set_cons_succ]
            refine wpAnyH_done (by kernel_rfl) ?_ _
            go_wp2_with fail
            exact bodyPost_ret (results_cell_row Try.results30 _ _ (w.heap.size + 1 + 1) 24 (feC (a * b % P)) (0, 0) _ rfl (Blk.setRow F2 _) Try.underlying24 rfl feInfo) rfl ⟨rfl, hHeld.2.2⟩
          exact AllReadyH.nil
        exact AllReadyH.nil
      exact AllReadyH.nil
    exact AllReadyH.nil
  exact AllReadyH.nil

set_option maxHeartbeats 4000000 in
set_option maxRecDepth 100000 in
theorem Neg_r (a : Int) (ra : R256 a) (w : World) : Calls Try.prog 26 #[fe a] w fun e w' => e = .returned (fe (-a % P)) ∧ Chg w w' [] := by
  have F0 : Blk ((w.alloc (.cells (feC a) 24)).alloc (.cells z32 24)) w.heap.size (feC a) 24 := (Blk.new w (feC a) 24).alloc _
  have F2 : Blk ((w.alloc (.cells (feC a) 24)).alloc (.cells z32 24)) (w.heap.size + 1) z32 24 := by have h := Blk.new (w.alloc (.cells (feC a) 24)) z32 24; simpa using h
  have C0 := ((Chg.refl w []).alloc (.cells (feC a) 24)).alloc (.cells z32 24)
  go_enter Try.func26, Try.ntmps26
  go_wp2_with (refine wpList_load_row rfl 24 _ rfl w.heap.size rfl 24 _ (0, 0) _ F0 Try.underlying24 rfl feInfo ?_)
  refine (Value_r a ra _).mono ?_
  rintro e x0 ⟨rfl, k⟩
  replace F2 := F2.chg k (by simp)
  replace C0 := C0.trans1 k
  clear F0
  clear k
  go_wp2_with fail
  refine (neg_p (rd a) (rd_lt a) _).mono ?_
  rintro e x1 ⟨rfl, k⟩
  replace F2 := F2.chg k (by simp)
  replace C0 := C0.trans1 k
  clear k
  go_wp2_with fail
  refine (Back_r (ngP (rd a)) _).mono ?_
  rintro e x2 ⟨rfl, k⟩
  replace F2 := F2.chg k (by simp)
  replace C0 := C0.trans1 k
  clear k
  rw [rneg a ra.1]
  go_wp2_with (refine wpList_store_row rfl 24 _ _ rfl (w.heap.size + 1) _ rfl rfl 24 _ F2 feInfo rfl (feC_one _) ?_)
  exact bodyPost_ret (results_cell_row Try.results26 _ _ (w.heap.size + 1) 24 (feC (-a % P)) (0, 0) _ rfl (Blk.setRow F2 _) Try.underlying24 rfl feInfo) rfl ⟨rfl, C0.setRowNew (by omega) _⟩

set_option maxHeartbeats 4000000 in
set_option maxRecDepth 100000 in
theorem Double_r (a : Int) (ra : R256 a) (w : World) : Calls Try.prog 28 #[fe a] w fun e w' => e = .returned (fe ((a + a) % P)) ∧ Chg w w' [] := by
  have F0 : Blk ((w.alloc (.cells (feC a) 24)).alloc (.cells z32 24)) w.heap.size (feC a) 24 := (Blk.new w (feC a) 24).alloc _
  have F2 : Blk ((w.alloc (.cells (feC a) 24)).alloc (.cells z32 24)) (w.heap.size + 1) z32 24 := by have h := Blk.new (w.alloc (.cells (feC a) 24)) z32 24; simpa using h
  have C0 := ((Chg.refl w []).alloc (.cells (feC a) 24)).alloc (.cells z32 24)
  go_enter Try.func28, Try.ntmps28
  go_wp2_with (refine wpList_load_row rfl 24 _ rfl w.heap.size rfl 24 _ (0, 0) _ F0 Try.underlying24 rfl feInfo ?_)
  refine (Add_r a a ra ra _).mono ?_
  rintro e x0 ⟨rfl, k⟩
  replace F2 := F2.chg k (by simp)
  replace C0 := C0.trans1 k
  clear F0
  clear k
  go_wp2_with (refine wpList_store_row rfl 24 _ _ rfl (w.heap.size + 1) _ rfl rfl 24 _ F2 feInfo rfl (feC_one _) ?_)
  exact bodyPost_ret (results_cell_row Try.results28 _ _ (w.heap.size + 1) 24 (feC ((a + a) % P)) (0, 0) _ rfl (Blk.setRow F2 _) Try.underlying24 rfl feInfo) rfl ⟨rfl, C0.setRowNew (by omega) _⟩

set_option maxHeartbeats 4000000 in
set_option maxRecDepth 100000 in
theorem Square_r (a : Int) (ra : R256 a) (w : World) : Calls Try.prog 32 #[fe a] w fun e w' => e = .returned (fe (a * a % P)) ∧ Chg w w' [] := by
  have F0 : Blk ((w.alloc (.cells (feC a) 24)).alloc (.cells z32 24)) w.heap.size (feC a) 24 := (Blk.new w (feC a) 24).alloc _
  have F2 : Blk ((w.alloc (.cells (feC a) 24)).alloc (.cells z32 24)) (w.heap.size + 1) z32 24 := by have h := Blk.new (w.alloc (.cells (feC a) 24)) z32 24; simpa using h
  have C0 := ((Chg.refl w []).alloc (.cells (feC a) 24)).alloc (.cells z32 24)
  go_enter Try.func32, Try.ntmps32
  go_wp2_with (refine wpList_load_row rfl 24 _ rfl w.heap.size rfl 24 _ (0, 0) _ F0 Try.underlying24 rfl feInfo ?_)
  refine (Mul_r a a ra ra _).mono ?_
  rintro e x0 ⟨rfl, k⟩
  replace F2 := F2.chg k (by simp)
  replace C0 := C0.trans1 k
  clear F0
  clear k
  go_wp2_with (refine wpList_store_row rfl 24 _ _ rfl (w.heap.size + 1) _ rfl rfl 24 _ F2 feInfo rfl (feC_one _) ?_)
  exact bodyPost_ret (results_cell_row Try.results32 _ _ (w.heap.size + 1) 24 (feC (a * a % P)) (0, 0) _ rfl (Blk.setRow F2 _) Try.underlying24 rfl feInfo) rfl ⟨rfl, C0.setRowNew (by omega) _⟩

set_option maxHeartbeats 4000000 in
set_option maxRecDepth 100000 in
theorem Double_fe (a : Int) (ra : R256 a) (w : World) : Calls Try.prog 27 #[fe a] w fun e w' => e = .returned (fe ((a + a) % P)) ∧ Chg w w' [] := by
  have F0 : Blk ((w.alloc (.cells (feC a) 24)).alloc (.cells z32 24)) w.heap.size (feC a) 24 := (Blk.new w (feC a) 24).alloc _
  have F2 : Blk ((w.alloc (.cells (feC a) 24)).alloc (.cells z32 24)) (w.heap.size + 1) z32 24 := by have h := Blk.new (w.alloc (.cells (feC a) 24)) z32 24; simpa using h
  have C0 := ((Chg.refl w []).alloc (.cells (feC a) 24)).alloc (.cells z32 24)
  go_enter Try.func27, Try.ntmps27
  go_wp2_with (refine wpList_load_row rfl 24 _ rfl w.heap.size rfl 24 _ (0, 0) _ F0 Try.underlying24 rfl feInfo ?_)
  refine (Add_fe a a ra ra _).mono ?_
  rintro e x0 ⟨rfl, k⟩
  replace F2 := F2.chg k (by simp)
  replace C0 := C0.trans1 k
  clear F0
  clear k
  go_wp2_with (refine wpList_store_row rfl 24 _ _ rfl (w.heap.size + 1) _ rfl rfl 24 _ F2 feInfo rfl (feC_one _) ?_)
  exact bodyPost_ret (results_cell_row Try.results27 _ _ (w.heap.size + 1) 24 (feC ((a + a) % P)) (0, 0) _ rfl (Blk.setRow F2 _) Try.underlying24 rfl feInfo) rfl ⟨rfl, C0.setRowNew (by omega) _⟩

set_option maxHeartbeats 4000000 in
set_option maxRecDepth 100000 in
theorem Equal_r (a b : Int) (ra : R256 a) (rb : R256 b) (w : World) : Calls Try.prog 34 #[fe a, fe b] w fun e w' => e = .returned (.bool (eqf (a % P) (b % P))) ∧ Chg w w' [] := by
  have hge := numGuard
  rw [← eqn_eqf a b ra rb]
  have F0 : Blk ((w.alloc (.cells (feC a) 24)).alloc (.cells (feC b) 24)) w.heap.size (feC a) 24 := (Blk.new w (feC a) 24).alloc _
  have F1 : Blk ((w.alloc (.cells (feC a) 24)).alloc (.cells (feC b) 24)) (w.heap.size + 1) (feC b) 24 := by have h := Blk.new (w.alloc (.cells (feC a) 24)) (feC b) 24; simpa using h
  have C0 := ((Chg.refl w []).alloc (.cells (feC a) 24)).alloc (.cells (feC b) 24)
  go_enter Try.func34, Try.ntmps34
  go_wp2_with fail
  generalize hv0 : ((w.alloc (.cells (feC a) 24)).alloc (.cells (feC b) 24)) = v0 at F0 F1 C0
  try (change Code.wp _ _ _ _ ((w.alloc (.cells (feC a) 24)).alloc (.cells (feC b) 24)); rw [hv0])
  clear hv0
  refine wp_region_held_drew (S := fun w' => Chg v0 w' []) (by kernel_rfl) ((Chg.refl v0 []).drew) (fun hHeld => ?_)
  refine take_load 0 (some 5) (feC a) rfl (by kernel_rfl) (by kernel_rfl) (by kernel_rfl) (fun _ _ _ h => h) rfl rfl 24 _ rfl w.heap.size rfl 24 _ (fun w h => F0.chg h (by simp)) Try.underlying24 rfl (by first | exact feInfo | kernel_rfl) hHeld ?_
  try simp only [Act.put, List.setIfInBounds_toArray, List.set_cons_zero, List.set_cons_succ]
  refine take_load 2 (some 7) (feC b) rfl (by kernel_rfl) (by kernel_rfl) (by kernel_rfl) (fun _ _ _ h => h) rfl rfl 24 _ rfl (w.heap.size + 1) rfl 24 _ (fun w h => F1.chg h (by simp)) Try.underlying24 rfl (by first | exact feInfo | kernel_rfl) hHeld ?_
  try simp only [Act.put, List.setIfInBounds_toArray, List.set_cons_zero, List.set_cons_succ]
  refine wpAnyH_ready (rs := [1]) (by kernel_rfl) (by simp) ?_
  refine AllReadyH.cons (o := _) rfl (fun K hK => ?_) ?_
  ·
    go_simp
    refine (Value_r a ra _).mono ?_
    rintro e x1 ⟨rfl, k⟩
    go_wp2_with fail
    refine hK.out _ _ (hHeld.trans1 k) (fun hHeld => ?_)
    clear hK K
    try simp only [Act.put, List.setIfInBounds_toArray, List.set_cons_zero, List.set_cons_succ]
    refine wpAnyH_ready (rs := [3]) (by kernel_rfl) (by simp) ?_
    refine AllReadyH.cons (o := _) rfl (fun K hK => ?_) ?_
    ·
      go_simp
      refine (Value_r b rb _).mono ?_
      rintro e x3 ⟨rfl, k⟩
      go_wp2_with fail
      refine hK.out _ _ (hHeld.trans1 k) (fun hHeld => ?_)
      clear hK K
      try simp only [Act.put, List.setIfInBounds_toArray, List.set_cons_zero, List.set_cons_succ]
      refine take_val (v := (.bool (eqn (rd a) (rd b)))) 4 (some 9) rfl (by kernel_rfl) (by kernel_rfl) (by kernel_rfl) (fun _ _ _ h => h) rfl rfl (fun w hSw => ?_) hHeld ?_
      · (go_simp; try with_reducible rfl)
      try simp only [Act.put, List.setIfInBounds_toArray, List.set_cons_zero, List.set_cons_succ]
      refine take_val (v := ?_) 5 (some 4) rfl (by kernel_rfl) (by kernel_rfl) (by kernel_rfl) (fun _ _ _ h => h) rfl rfl (fun w hSw => ?_) hHeld ?_
      rotate_left
      · (go_simp; try with_reducible rfl)
      try simp only [Act.put, List.setIfInBounds_toArray, List.set_cons_zero, List.set_cons_succ]
      refine wpAnyH_done (by kernel_rfl) ?_ _
      go_wp2
      go_ret
      exact ⟨rfl, C0.trans1 hHeld⟩
    exact AllReadyH.nil
  exact AllReadyH.nil

set_option maxHeartbeats 4000000 in
set_option maxRecDepth 100000 in
theorem Select_r (a b : Int) (ra : R256 a) (rb : R256 b) (p : Bool) (w : World) : Calls Try.prog 36 #[fe a, fe b, .bool p] w fun e w' => e = .returned (fe (sel p a b % P)) ∧ Chg w w' [] := by
  have F0 : Blk (((w.alloc (.cells (feC a) 24)).alloc (.cells (feC b) 24)).alloc (.cells z32 24)) w.heap.size (feC a) 24 := ((Blk.new w (feC a) 24).alloc _).alloc _
  have F1 : Blk (((w.alloc (.cells (feC a) 24)).alloc (.cells (feC b) 24)).alloc (.cells z32 24)) (w.heap.size + 1) (feC b) 24 := by have h := (Blk.new (w.alloc (.cells (feC a) 24)) (feC b) 24).alloc (.cells z32 24); simpa using h
  have F2 : Blk (((w.alloc (.cells (feC a) 24)).alloc (.cells (feC b) 24)).alloc (.cells z32 24)) (w.heap.size + 1 + 1) z32 24 := by have h := Blk.new ((w.alloc (.cells (feC a) 24)).alloc (.cells (feC b) 24)) z32 24; simpa using h
  have C0 := (((Chg.refl w []).alloc (.cells (feC a) 24)).alloc (.cells (feC b) 24)).alloc (.cells z32 24)
  go_enter Try.func36, Try.ntmps36
  cases p with
  | true =>
    have hs : sel true a b = b := rfl
    go_wp2_with (refine wpList_load_row rfl 24 _ rfl (w.heap.size + 1) rfl 24 _ (0, 0) _ F1 Try.underlying24 rfl feInfo ?_)
    refine (Value_r b rb _).mono ?_
    rintro e x1 ⟨rfl, k⟩
    replace F2 := F2.chg k (by simp)
    replace C0 := C0.trans1 k
    clear k F0 F1
    go_wp2_with fail
    refine (Back_r (rd b) _).mono ?_
    rintro e x2 ⟨rfl, k⟩
    rw [rd_int b rb.1]
    replace F2 := F2.chg k (by simp)
    replace C0 := C0.trans1 k
    clear k
    go_wp2_with (refine wpList_store_row rfl 24 _ _ rfl (w.heap.size + 1 + 1) _ rfl rfl 24 _ F2 feInfo rfl (feC_one _) ?_)
    exact bodyPost_ret (results_cell_row Try.results36 _ _ (w.heap.size + 1 + 1) 24 (feC (b % P)) (0, 0) _ rfl (Blk.setRow F2 _) Try.underlying24 rfl feInfo) rfl ⟨rfl, C0.setRowNew (by omega) _⟩
  | false =>
    have hs : sel false a b = a := rfl
    go_wp2_with (refine wpList_load_row rfl 24 _ rfl w.heap.size rfl 24 _ (0, 0) _ F0 Try.underlying24 rfl feInfo ?_)
    refine (Value_r a ra _).mono ?_
    rintro e x1 ⟨rfl, k⟩
    replace F2 := F2.chg k (by simp)
    replace C0 := C0.trans1 k
    clear k F0 F1
    go_wp2_with fail
    refine (Back_r (rd a) _).mono ?_
    rintro e x2 ⟨rfl, k⟩
    rw [rd_int a ra.1]
    replace F2 := F2.chg k (by simp)
    replace C0 := C0.trans1 k
    clear k
    go_wp2_with (refine wpList_store_row rfl 24 _ _ rfl (w.heap.size + 1 + 1) _ rfl rfl 24 _ F2 feInfo rfl (feC_one _) ?_)
    exact bodyPost_ret (results_cell_row Try.results36 _ _ (w.heap.size + 1 + 1) 24 (feC (a % P)) (0, 0) _ rfl (Blk.setRow F2 _) Try.underlying24 rfl feInfo) rfl ⟨rfl, C0.setRowNew (by omega) _⟩

end Go.Proofs.Ytialljmkkichiaa
