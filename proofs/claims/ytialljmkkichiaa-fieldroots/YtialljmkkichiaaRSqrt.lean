/- The document's answer: SqrtRatio. -/
import Derived.Test.YtialljmkkichiaaRRoot
set_option linter.unusedVariables false
set_option linter.unusedSimpArgs false
set_option linter.unnecessarySimpa false
namespace Go.Proofs.Ytialljmkkichiaa
open Go.RowKit N

set_option maxHeartbeats 4000000 in
set_option maxRecDepth 100000 in
theorem sr_u0 (u v : Int) (ru : R256 u) (rv : R256 v) (hu : eqn (rd u) 0 = true) (w : World) :
    Calls Try.prog 52 #[fe u, fe v] w fun e w' => e = .returned (.tuple #[fe 0, .bool true]) ∧ Chg w w' [] := by
  have hge := numGuard
  have F0 : Blk (((w.alloc (.cells (feC u) 24)).alloc (.cells (feC v) 24)).alloc (.cells z32 24)) w.heap.size (feC u) 24 := ((Blk.new w (feC u) 24).alloc _).alloc _
  have F1 : Blk (((w.alloc (.cells (feC u) 24)).alloc (.cells (feC v) 24)).alloc (.cells z32 24)) (w.heap.size + 1) (feC v) 24 := by have h := (Blk.new (w.alloc (.cells (feC u) 24)) (feC v) 24).alloc (.cells z32 24); simpa using h
  have F2 : Blk (((w.alloc (.cells (feC u) 24)).alloc (.cells (feC v) 24)).alloc (.cells z32 24)) (w.heap.size + 1 + 1) z32 24 := by have h := Blk.new ((w.alloc (.cells (feC u) 24)).alloc (.cells (feC v) 24)) z32 24; simpa using h
  have CC := (((Chg.refl w []).alloc (.cells (feC u) 24)).alloc (.cells (feC v) 24)).alloc (.cells z32 24)
  go_enter Try.func52, Try.ntmps52
  go_wp2_with (refine wpList_load_row rfl 24 _ rfl w.heap.size rfl 24 _ (0, 0) _ F0 Try.underlying24 rfl feInfo ?_)
  refine (Value_r u ru _).mono ?_
  rintro e y1 ⟨rfl, k⟩
  replace F0 := F0.chg k (by simp)
  replace F1 := F1.chg k (by simp)
  replace F2 := F2.chg k (by simp)
  replace CC := CC.trans1 k
  clear k
  go_wp2_with (first | (refine wpList_build_fe rfl 84 #[] rfl (dC 0) (by kernel_rfl) ?_) | (refine wpList_build_fe rfl 24 #[] rfl (feC 0) (by kernel_rfl) ?_) | (refine wpList_store_row rfl 24 _ _ rfl (w.heap.size + 1 + 1) _ rfl rfl 24 _ F2 feInfo rfl (feC_one _) ?_))
  exact bodyPost_ret (results_cell_tmp Try.results52 _ _ (w.heap.size + 1 + 1) 24 (feC 0) _ _ rfl rfl (Blk.setRow F2 _) Try.underlying24 rfl feInfo) rfl ⟨rfl, CC.setRowNew (by omega) _⟩

set_option maxHeartbeats 4000000 in
set_option maxRecDepth 100000 in
theorem sr_v0 (u v : Int) (ru : R256 u) (rv : R256 v) (hu : eqn (rd u) 0 = false) (hv : eqn (rd v) 0 = true) (w : World) :
    Calls Try.prog 52 #[fe u, fe v] w fun e w' => e = .returned (.tuple #[fe 0, .bool false]) ∧ Chg w w' [] := by
  have hge := numGuard
  have F0 : Blk (((w.alloc (.cells (feC u) 24)).alloc (.cells (feC v) 24)).alloc (.cells z32 24)) w.heap.size (feC u) 24 := ((Blk.new w (feC u) 24).alloc _).alloc _
  have F1 : Blk (((w.alloc (.cells (feC u) 24)).alloc (.cells (feC v) 24)).alloc (.cells z32 24)) (w.heap.size + 1) (feC v) 24 := by have h := (Blk.new (w.alloc (.cells (feC u) 24)) (feC v) 24).alloc (.cells z32 24); simpa using h
  have F2 : Blk (((w.alloc (.cells (feC u) 24)).alloc (.cells (feC v) 24)).alloc (.cells z32 24)) (w.heap.size + 1 + 1) z32 24 := by have h := Blk.new ((w.alloc (.cells (feC u) 24)).alloc (.cells (feC v) 24)) z32 24; simpa using h
  have CC := (((Chg.refl w []).alloc (.cells (feC u) 24)).alloc (.cells (feC v) 24)).alloc (.cells z32 24)
  go_enter Try.func52, Try.ntmps52
  go_wp2_with (refine wpList_load_row rfl 24 _ rfl w.heap.size rfl 24 _ (0, 0) _ F0 Try.underlying24 rfl feInfo ?_)
  refine (Value_r u ru _).mono ?_
  rintro e y1 ⟨rfl, k⟩
  replace F0 := F0.chg k (by simp)
  replace F1 := F1.chg k (by simp)
  replace F2 := F2.chg k (by simp)
  replace CC := CC.trans1 k
  clear k
  go_wp2_with (first | (refine wpList_build_fe rfl 84 #[] rfl (dC 0) (by kernel_rfl) ?_) | (refine wpList_load_row rfl 24 _ rfl (w.heap.size + 1) rfl 24 _ (0, 0) _ F1 Try.underlying24 rfl feInfo ?_))
  refine (Value_r v rv _).mono ?_
  rintro e y2 ⟨rfl, k⟩
  replace F0 := F0.chg k (by simp)
  replace F1 := F1.chg k (by simp)
  replace F2 := F2.chg k (by simp)
  replace CC := CC.trans1 k
  clear k
  go_wp2_with (first | (refine wpList_build_fe rfl 84 #[] rfl (dC 0) (by kernel_rfl) ?_) | (refine wpList_build_fe rfl 24 #[] rfl (feC 0) (by kernel_rfl) ?_) | (refine wpList_store_row rfl 24 _ _ rfl (w.heap.size + 1 + 1) _ rfl rfl 24 _ F2 feInfo rfl (feC_one _) ?_))
  exact bodyPost_ret (results_cell_tmp Try.results52 _ _ (w.heap.size + 1 + 1) 24 (feC 0) _ _ rfl rfl (Blk.setRow F2 _) Try.underlying24 rfl feInfo) rfl ⟨rfl, CC.setRowNew (by omega) _⟩

set_option maxHeartbeats 4000000 in
set_option maxRecDepth 100000 in
theorem sr_yes (u v : Int) (ru : R256 u) (rv : R256 v) (hu : eqn (rd u) 0 = false) (hv : eqn (rd v) 0 = false) (i q : Int) (hi : Hid (pw v 57896044618658097711785492504343953926634992332820282019728792003956564819947 = i)) (ri : R256 i) (hq : Hid (u * i % P = q)) (rq : R256 q) (r : Int) (hl : Hid (1 = leg q)) (hr : Hid (rtr q = r)) (w : World) :
    Calls Try.prog 52 #[fe u, fe v] w fun e w' => e = .returned (.tuple #[fe r, .bool true]) ∧ Chg w w' [] := by
  have hge := numGuard
  have F0 : Blk (((w.alloc (.cells (feC u) 24)).alloc (.cells (feC v) 24)).alloc (.cells z32 24)) w.heap.size (feC u) 24 := ((Blk.new w (feC u) 24).alloc _).alloc _
  have F1 : Blk (((w.alloc (.cells (feC u) 24)).alloc (.cells (feC v) 24)).alloc (.cells z32 24)) (w.heap.size + 1) (feC v) 24 := by have h := (Blk.new (w.alloc (.cells (feC u) 24)) (feC v) 24).alloc (.cells z32 24); simpa using h
  have F2 : Blk (((w.alloc (.cells (feC u) 24)).alloc (.cells (feC v) 24)).alloc (.cells z32 24)) (w.heap.size + 1 + 1) z32 24 := by have h := Blk.new ((w.alloc (.cells (feC u) 24)).alloc (.cells (feC v) 24)) z32 24; simpa using h
  have CC := (((Chg.refl w []).alloc (.cells (feC u) 24)).alloc (.cells (feC v) 24)).alloc (.cells z32 24)
  go_enter Try.func52, Try.ntmps52
  go_wp2_with (refine wpList_load_row rfl 24 _ rfl w.heap.size rfl 24 _ (0, 0) _ F0 Try.underlying24 rfl feInfo ?_)
  refine (Value_r u ru _).mono ?_
  rintro e y1 ⟨rfl, k⟩
  replace F0 := F0.chg k (by simp)
  replace F1 := F1.chg k (by simp)
  replace F2 := F2.chg k (by simp)
  replace CC := CC.trans1 k
  clear k
  go_wp2_with (first | (refine wpList_build_fe rfl 84 #[] rfl (dC 0) (by kernel_rfl) ?_) | (refine wpList_load_row rfl 24 _ rfl (w.heap.size + 1) rfl 24 _ (0, 0) _ F1 Try.underlying24 rfl feInfo ?_))
  refine (Value_r v rv _).mono ?_
  rintro e y2 ⟨rfl, k⟩
  replace F0 := F0.chg k (by simp)
  replace F1 := F1.chg k (by simp)
  replace F2 := F2.chg k (by simp)
  replace CC := CC.trans1 k
  clear k
  go_wp2_with (first | (refine wpList_build_fe rfl 84 #[] rfl (dC 0) (by kernel_rfl) ?_))
  refine region_cut (fun a' w' => ∃ g6 : Nat, a' = ⟨#[fe u, fe v, .pointer (some ⟨w.heap.size, 0, none⟩), .pointer (some ⟨(w.heap.size + 1), 0, none⟩), .pointer (some ⟨(w.heap.size + 1 + 1), 0, none⟩), .bool false, .pointer (some ⟨g6, 0, none⟩), .agg (feC u), .agg (dC (rd u)), .agg (dC 0), .bool false, undef, .agg (feC v), .agg (dC (rd v)), .agg (dC 0), .bool false, undef, .agg (feC u), .agg (feC v), fe i, fe q, undef, undef, undef, undef, undef, undef, undef, undef, undef], []⟩ ∧ y2.heap.size ≤ g6 ∧ Blk w' g6 (feC q) 24 ∧ Chg y2 w' []) ?_ ?_
  ·
    refine wp_region_held_drew (S := fun w' => Chg y2 w' []) (by kernel_rfl) ((Chg.refl y2 []).drew) (fun hHeld => ?_)
    refine take_load 0 (some 17) (feC u) rfl (by kernel_rfl) (by kernel_rfl) (by kernel_rfl) (fun _ _ _ h => h) rfl rfl 24 _ rfl w.heap.size rfl 24 _ (fun w h => F0.chg h (by simp)) Try.underlying24 rfl feInfo hHeld ?_
    try simp only [Act.put, List.setIfInBounds_toArray, List.set_cons_zero, List.set_cons_succ]
    refine take_load 1 (some 18) (feC v) rfl (by kernel_rfl) (by kernel_rfl) (by kernel_rfl) (fun _ _ _ h => h) rfl rfl 24 _ rfl (w.heap.size + 1) rfl 24 _ (fun w h => F1.chg h (by simp)) Try.underlying24 rfl feInfo hHeld ?_
    try simp only [Act.put, List.setIfInBounds_toArray, List.set_cons_zero, List.set_cons_succ]
    refine wpAnyH_ready (rs := [2, 4]) (by kernel_rfl) (by simp) ?_
    refine AllReadyH.cons (o := _) rfl (fun K hK => ?_) ?_
    ·
      go_simp
      refine (Invert_r v rv _).mono ?_
      rintro e x1 ⟨rfl, k⟩
      rw [hi.out]
      go_wp2_with fail
      refine hK.out _ _ (hHeld.trans1 k) (fun hHeld => ?_)
      clear k
      clear hK K
      try simp only [Act.put, List.setIfInBounds_toArray, List.set_cons_zero, List.set_cons_succ]
      refine wpAnyH_ready (rs := [3, 4]) (by kernel_rfl) (by simp) ?_
      refine AllReadyH.cons (o := _) rfl (fun K hK => ?_) ?_
      ·
        go_simp
        refine (Mul_r u i ru ri _).mono ?_
        rintro e x2 ⟨rfl, k⟩
        rw [hq.out]
        go_wp2_with fail
        refine hK.out _ _ (hHeld.trans1 k) (fun hHeld => ?_)
        clear k
        clear hK K
        try simp only [Act.put, List.setIfInBounds_toArray, List.set_cons_zero, List.set_cons_succ]
        refine wpAnyH_ready (rs := [4]) (by kernel_rfl) (by simp) ?_
        refine AllReadyH.cons (o := _) rfl (fun K hK => ?_) ?_
        ·
          go_simp
          have b7 : y2.heap.size ≤ x2.heap.size := by have h := hHeld.size; simpa using h
          have c7 : Blk (x2.alloc (.cells z32 24)) (x2.heap.size) z32 24 := by have h := Blk.new x2 z32 24; simpa using h
          refine hK.out _ _ (hHeld.alloc _) (fun hHeld => ?_)
          clear hK K
          try simp only [Act.put, List.setIfInBounds_toArray, List.set_cons_zero, List.set_cons_succ]
          refine wpAnyH_ready (rs := [5]) (by kernel_rfl) (by simp) ?_
          refine AllReadyH.cons (o := _) rfl (fun K hK => ?_) ?_
          ·
            rw [if_pos (by rfl)]
            refine wp_store_row 24 _ _ rfl (x2.heap.size) _ rfl rfl 24 _ c7 feInfo rfl (feC_one _) ?_
            refine hK.out _ _ (hHeld.setRowNew b7 _) (fun hHeld => ?_)
            replace c7 := c7.setRow (feC q)
            clear hK K
            try simp only [Act.put, List.setIfInBounds_toArray, List.set_cons_zero, List.set_cons_succ]
            refine wpAnyH_done (by kernel_rfl) ?_ _
            exact ⟨(x2.heap.size), rfl, b7, c7, hHeld⟩
          exact AllReadyH.nil
        exact AllReadyH.nil
      refine AllReadyH.cons (o := _) rfl (fun K hK => ?_) ?_
      ·
        go_simp
        have b7 : y2.heap.size ≤ x1.heap.size := by have h := hHeld.size; simpa using h
        have c7 : Blk (x1.alloc (.cells z32 24)) (x1.heap.size) z32 24 := by have h := Blk.new x1 z32 24; simpa using h
        refine hK.out _ _ (hHeld.alloc _) (fun hHeld => ?_)
        clear hK K
        try simp only [Act.put, List.setIfInBounds_toArray, List.set_cons_zero, List.set_cons_succ]
        refine wpAnyH_ready (rs := [3]) (by kernel_rfl) (by simp) ?_
        refine AllReadyH.cons (o := _) rfl (fun K hK => ?_) ?_
        ·
          go_simp
          refine (Mul_r u i ru ri _).mono ?_
          rintro e x3 ⟨rfl, k⟩
          rw [hq.out]
          go_wp2_with fail
          refine hK.out _ _ (hHeld.trans1 k) (fun hHeld => ?_)
          replace c7 := c7.chg k (by simp)
          clear k
          clear hK K
          try simp only [Act.put, List.setIfInBounds_toArray, List.set_cons_zero, List.set_cons_succ]
          refine wpAnyH_ready (rs := [5]) (by kernel_rfl) (by simp) ?_
          refine AllReadyH.cons (o := _) rfl (fun K hK => ?_) ?_
          ·
            rw [if_pos (by rfl)]
            refine wp_store_row 24 _ _ rfl (x1.heap.size) _ rfl rfl 24 _ c7 feInfo rfl (feC_one _) ?_
            refine hK.out _ _ (hHeld.setRowNew b7 _) (fun hHeld => ?_)
            replace c7 := c7.setRow (feC q)
            clear hK K
            try simp only [Act.put, List.setIfInBounds_toArray, List.set_cons_zero, List.set_cons_succ]
            refine wpAnyH_done (by kernel_rfl) ?_ _
            exact ⟨(x1.heap.size), rfl, b7, c7, hHeld⟩
          exact AllReadyH.nil
        exact AllReadyH.nil
      exact AllReadyH.nil
    refine AllReadyH.cons (o := _) rfl (fun K hK => ?_) ?_
    ·
      go_simp
      have b7 : y2.heap.size ≤ y2.heap.size := by have h := hHeld.size; simpa using h
      have c7 : Blk (y2.drew.alloc (.cells z32 24)) (y2.heap.size) z32 24 := by have h := Blk.new y2.drew z32 24; simpa using h
      refine hK.out _ _ (hHeld.alloc _) (fun hHeld => ?_)
      clear hK K
      try simp only [Act.put, List.setIfInBounds_toArray, List.set_cons_zero, List.set_cons_succ]
      refine wpAnyH_ready (rs := [2]) (by kernel_rfl) (by simp) ?_
      refine AllReadyH.cons (o := _) rfl (fun K hK => ?_) ?_
      ·
        go_simp
        refine (Invert_r v rv _).mono ?_
        rintro e x4 ⟨rfl, k⟩
        rw [hi.out]
        go_wp2_with fail
        refine hK.out _ _ (hHeld.trans1 k) (fun hHeld => ?_)
        replace c7 := c7.chg k (by simp)
        clear k
        clear hK K
        try simp only [Act.put, List.setIfInBounds_toArray, List.set_cons_zero, List.set_cons_succ]
        refine wpAnyH_ready (rs := [3]) (by kernel_rfl) (by simp) ?_
        refine AllReadyH.cons (o := _) rfl (fun K hK => ?_) ?_
        ·
          go_simp
          refine (Mul_r u i ru ri _).mono ?_
          rintro e x5 ⟨rfl, k⟩
          rw [hq.out]
          go_wp2_with fail
          refine hK.out _ _ (hHeld.trans1 k) (fun hHeld => ?_)
          replace c7 := c7.chg k (by simp)
          clear k
          clear hK K
          try simp only [Act.put, List.setIfInBounds_toArray, List.set_cons_zero, List.set_cons_succ]
          refine wpAnyH_ready (rs := [5]) (by kernel_rfl) (by simp) ?_
          refine AllReadyH.cons (o := _) rfl (fun K hK => ?_) ?_
          ·
            rw [if_pos (by rfl)]
            refine wp_store_row 24 _ _ rfl (y2.heap.size) _ rfl rfl 24 _ c7 feInfo rfl (feC_one _) ?_
            refine hK.out _ _ (hHeld.setRowNew b7 _) (fun hHeld => ?_)
            replace c7 := c7.setRow (feC q)
            clear hK K
            try simp only [Act.put, List.setIfInBounds_toArray, List.set_cons_zero, List.set_cons_succ]
            refine wpAnyH_done (by kernel_rfl) ?_ _
            exact ⟨(y2.heap.size), rfl, b7, c7, hHeld⟩
          exact AllReadyH.nil
        exact AllReadyH.nil
      exact AllReadyH.nil
    exact AllReadyH.nil
  rintro a' z0 ⟨g6, rfl, b6, F6, k⟩
  have sa : w.heap.size + 1 + 1 < y2.heap.size := F2.lt
  replace F2 := F2.chg k (by simp)
  replace CC := CC.trans1 k
  clear k
  clear F0 F1
  go_wp2_with (refine wpList_load_row rfl 24 _ rfl g6 rfl 24 _ (0, 0) _ F6 Try.underlying24 rfl feInfo ?_)
  refine (Legendre_r q rq 1 hl.out _).mono ?_
  rintro e y3 ⟨rfl, k⟩
  replace F2 := F2.chg k (by simp)
  replace F6 := F6.chg k (by simp)
  replace CC := CC.trans1 k
  clear k
  go_wp2_with (refine wpList_load_row rfl 24 _ rfl g6 rfl 24 _ (0, 0) _ F6 Try.underlying24 rfl feInfo ?_)
  refine (root_r q rq _).mono ?_
  rintro e y4 ⟨rfl, k⟩
  rw [hr.out]
  replace F2 := F2.chg k (by simp)
  replace CC := CC.trans1 k
  clear k
  clear F6
  go_wp2_with (refine wpList_store_row rfl 24 _ _ rfl (w.heap.size + 1 + 1) _ rfl rfl 24 _ F2 feInfo rfl (feC_one _) ?_)
  exact bodyPost_ret (results_cell_tmp Try.results52 _ _ (w.heap.size + 1 + 1) 24 (feC r) _ _ rfl rfl (Blk.setRow F2 _) Try.underlying24 rfl feInfo) rfl ⟨rfl, CC.setRowNew (by omega) _⟩

set_option maxHeartbeats 4000000 in
set_option maxRecDepth 100000 in
theorem sr_no (u v : Int) (ru : R256 u) (rv : R256 v) (hu : eqn (rd u) 0 = false) (hv : eqn (rd v) 0 = false) (i q : Int) (hi : Hid (pw v 57896044618658097711785492504343953926634992332820282019728792003956564819947 = i)) (ri : R256 i) (hq : Hid (u * i % P = q)) (rq : R256 q) (r : Int) (lg : Int) (hl : Hid (lg = leg q)) (hl1 : ¬ lg = 1) (d : Int) (hd : Hid (q * S1 % P = d)) (rdd : R256 d) (hr : Hid (rtr d = r)) (w : World) :
    Calls Try.prog 52 #[fe u, fe v] w fun e w' => e = .returned (.tuple #[fe r, .bool false]) ∧ Chg w w' [] := by
  have hge := numGuard
  have F0 : Blk (((w.alloc (.cells (feC u) 24)).alloc (.cells (feC v) 24)).alloc (.cells z32 24)) w.heap.size (feC u) 24 := ((Blk.new w (feC u) 24).alloc _).alloc _
  have F1 : Blk (((w.alloc (.cells (feC u) 24)).alloc (.cells (feC v) 24)).alloc (.cells z32 24)) (w.heap.size + 1) (feC v) 24 := by have h := (Blk.new (w.alloc (.cells (feC u) 24)) (feC v) 24).alloc (.cells z32 24); simpa using h
  have F2 : Blk (((w.alloc (.cells (feC u) 24)).alloc (.cells (feC v) 24)).alloc (.cells z32 24)) (w.heap.size + 1 + 1) z32 24 := by have h := Blk.new ((w.alloc (.cells (feC u) 24)).alloc (.cells (feC v) 24)) z32 24; simpa using h
  have CC := (((Chg.refl w []).alloc (.cells (feC u) 24)).alloc (.cells (feC v) 24)).alloc (.cells z32 24)
  go_enter Try.func52, Try.ntmps52
  go_wp2_with (refine wpList_load_row rfl 24 _ rfl w.heap.size rfl 24 _ (0, 0) _ F0 Try.underlying24 rfl feInfo ?_)
  refine (Value_r u ru _).mono ?_
  rintro e y1 ⟨rfl, k⟩
  replace F0 := F0.chg k (by simp)
  replace F1 := F1.chg k (by simp)
  replace F2 := F2.chg k (by simp)
  replace CC := CC.trans1 k
  clear k
  go_wp2_with (first | (refine wpList_build_fe rfl 84 #[] rfl (dC 0) (by kernel_rfl) ?_) | (refine wpList_load_row rfl 24 _ rfl (w.heap.size + 1) rfl 24 _ (0, 0) _ F1 Try.underlying24 rfl feInfo ?_))
  refine (Value_r v rv _).mono ?_
  rintro e y2 ⟨rfl, k⟩
  replace F0 := F0.chg k (by simp)
  replace F1 := F1.chg k (by simp)
  replace F2 := F2.chg k (by simp)
  replace CC := CC.trans1 k
  clear k
  go_wp2_with (first | (refine wpList_build_fe rfl 84 #[] rfl (dC 0) (by kernel_rfl) ?_))
  refine region_cut (fun a' w' => ∃ g6 : Nat, a' = ⟨#[fe u, fe v, .pointer (some ⟨w.heap.size, 0, none⟩), .pointer (some ⟨(w.heap.size + 1), 0, none⟩), .pointer (some ⟨(w.heap.size + 1 + 1), 0, none⟩), .bool false, .pointer (some ⟨g6, 0, none⟩), .agg (feC u), .agg (dC (rd u)), .agg (dC 0), .bool false, undef, .agg (feC v), .agg (dC (rd v)), .agg (dC 0), .bool false, undef, .agg (feC u), .agg (feC v), fe i, fe q, undef, undef, undef, undef, undef, undef, undef, undef, undef], []⟩ ∧ y2.heap.size ≤ g6 ∧ Blk w' g6 (feC q) 24 ∧ Chg y2 w' []) ?_ ?_
  ·
    refine wp_region_held_drew (S := fun w' => Chg y2 w' []) (by kernel_rfl) ((Chg.refl y2 []).drew) (fun hHeld => ?_)
    refine take_load 0 (some 17) (feC u) rfl (by kernel_rfl) (by kernel_rfl) (by kernel_rfl) (fun _ _ _ h => h) rfl rfl 24 _ rfl w.heap.size rfl 24 _ (fun w h => F0.chg h (by simp)) Try.underlying24 rfl feInfo hHeld ?_
    try simp only [Act.put, List.setIfInBounds_toArray, List.set_cons_zero, List.set_cons_succ]
    refine take_load 1 (some 18) (feC v) rfl (by kernel_rfl) (by kernel_rfl) (by kernel_rfl) (fun _ _ _ h => h) rfl rfl 24 _ rfl (w.heap.size + 1) rfl 24 _ (fun w h => F1.chg h (by simp)) Try.underlying24 rfl feInfo hHeld ?_
    try simp only [Act.put, List.setIfInBounds_toArray, List.set_cons_zero, List.set_cons_succ]
    refine wpAnyH_ready (rs := [2, 4]) (by kernel_rfl) (by simp) ?_
    refine AllReadyH.cons (o := _) rfl (fun K hK => ?_) ?_
    ·
      go_simp
      refine (Invert_r v rv _).mono ?_
      rintro e x1 ⟨rfl, k⟩
      rw [hi.out]
      go_wp2_with fail
      refine hK.out _ _ (hHeld.trans1 k) (fun hHeld => ?_)
      clear k
      clear hK K
      try simp only [Act.put, List.setIfInBounds_toArray, List.set_cons_zero, List.set_cons_succ]
      refine wpAnyH_ready (rs := [3, 4]) (by kernel_rfl) (by simp) ?_
      refine AllReadyH.cons (o := _) rfl (fun K hK => ?_) ?_
      ·
        go_simp
        refine (Mul_r u i ru ri _).mono ?_
        rintro e x2 ⟨rfl, k⟩
        rw [hq.out]
        go_wp2_with fail
        refine hK.out _ _ (hHeld.trans1 k) (fun hHeld => ?_)
        clear k
        clear hK K
        try simp only [Act.put, List.setIfInBounds_toArray, List.set_cons_zero, List.set_cons_succ]
        refine wpAnyH_ready (rs := [4]) (by kernel_rfl) (by simp) ?_
        refine AllReadyH.cons (o := _) rfl (fun K hK => ?_) ?_
        ·
          go_simp
          have b7 : y2.heap.size ≤ x2.heap.size := by have h := hHeld.size; simpa using h
          have c7 : Blk (x2.alloc (.cells z32 24)) (x2.heap.size) z32 24 := by have h := Blk.new x2 z32 24; simpa using h
          refine hK.out _ _ (hHeld.alloc _) (fun hHeld => ?_)
          clear hK K
          try simp only [Act.put, List.setIfInBounds_toArray, List.set_cons_zero, List.set_cons_succ]
          refine wpAnyH_ready (rs := [5]) (by kernel_rfl) (by simp) ?_
          refine AllReadyH.cons (o := _) rfl (fun K hK => ?_) ?_
          ·
            rw [if_pos (by rfl)]
            refine wp_store_row 24 _ _ rfl (x2.heap.size) _ rfl rfl 24 _ c7 feInfo rfl (feC_one _) ?_
            refine hK.out _ _ (hHeld.setRowNew b7 _) (fun hHeld => ?_)
            replace c7 := c7.setRow (feC q)
            clear hK K
            try simp only [Act.put, List.setIfInBounds_toArray, List.set_cons_zero, List.set_cons_succ]
            refine wpAnyH_done (by kernel_rfl) ?_ _
            exact ⟨(x2.heap.size), rfl, b7, c7, hHeld⟩
          exact AllReadyH.nil
        exact AllReadyH.nil
      refine AllReadyH.cons (o := _) rfl (fun K hK => ?_) ?_
      ·
        go_simp
        have b7 : y2.heap.size ≤ x1.heap.size := by have h := hHeld.size; simpa using h
        have c7 : Blk (x1.alloc (.cells z32 24)) (x1.heap.size) z32 24 := by have h := Blk.new x1 z32 24; simpa using h
        refine hK.out _ _ (hHeld.alloc _) (fun hHeld => ?_)
        clear hK K
        try simp only [Act.put, List.setIfInBounds_toArray, List.set_cons_zero, List.set_cons_succ]
        refine wpAnyH_ready (rs := [3]) (by kernel_rfl) (by simp) ?_
        refine AllReadyH.cons (o := _) rfl (fun K hK => ?_) ?_
        ·
          go_simp
          refine (Mul_r u i ru ri _).mono ?_
          rintro e x3 ⟨rfl, k⟩
          rw [hq.out]
          go_wp2_with fail
          refine hK.out _ _ (hHeld.trans1 k) (fun hHeld => ?_)
          replace c7 := c7.chg k (by simp)
          clear k
          clear hK K
          try simp only [Act.put, List.setIfInBounds_toArray, List.set_cons_zero, List.set_cons_succ]
          refine wpAnyH_ready (rs := [5]) (by kernel_rfl) (by simp) ?_
          refine AllReadyH.cons (o := _) rfl (fun K hK => ?_) ?_
          ·
            rw [if_pos (by rfl)]
            refine wp_store_row 24 _ _ rfl (x1.heap.size) _ rfl rfl 24 _ c7 feInfo rfl (feC_one _) ?_
            refine hK.out _ _ (hHeld.setRowNew b7 _) (fun hHeld => ?_)
            replace c7 := c7.setRow (feC q)
            clear hK K
            try simp only [Act.put, List.setIfInBounds_toArray, List.set_cons_zero, List.set_cons_succ]
            refine wpAnyH_done (by kernel_rfl) ?_ _
            exact ⟨(x1.heap.size), rfl, b7, c7, hHeld⟩
          exact AllReadyH.nil
        exact AllReadyH.nil
      exact AllReadyH.nil
    refine AllReadyH.cons (o := _) rfl (fun K hK => ?_) ?_
    ·
      go_simp
      have b7 : y2.heap.size ≤ y2.heap.size := by have h := hHeld.size; simpa using h
      have c7 : Blk (y2.drew.alloc (.cells z32 24)) (y2.heap.size) z32 24 := by have h := Blk.new y2.drew z32 24; simpa using h
      refine hK.out _ _ (hHeld.alloc _) (fun hHeld => ?_)
      clear hK K
      try simp only [Act.put, List.setIfInBounds_toArray, List.set_cons_zero, List.set_cons_succ]
      refine wpAnyH_ready (rs := [2]) (by kernel_rfl) (by simp) ?_
      refine AllReadyH.cons (o := _) rfl (fun K hK => ?_) ?_
      ·
        go_simp
        refine (Invert_r v rv _).mono ?_
        rintro e x4 ⟨rfl, k⟩
        rw [hi.out]
        go_wp2_with fail
        refine hK.out _ _ (hHeld.trans1 k) (fun hHeld => ?_)
        replace c7 := c7.chg k (by simp)
        clear k
        clear hK K
        try simp only [Act.put, List.setIfInBounds_toArray, List.set_cons_zero, List.set_cons_succ]
        refine wpAnyH_ready (rs := [3]) (by kernel_rfl) (by simp) ?_
        refine AllReadyH.cons (o := _) rfl (fun K hK => ?_) ?_
        ·
          go_simp
          refine (Mul_r u i ru ri _).mono ?_
          rintro e x5 ⟨rfl, k⟩
          rw [hq.out]
          go_wp2_with fail
          refine hK.out _ _ (hHeld.trans1 k) (fun hHeld => ?_)
          replace c7 := c7.chg k (by simp)
          clear k
          clear hK K
          try simp only [Act.put, List.setIfInBounds_toArray, List.set_cons_zero, List.set_cons_succ]
          refine wpAnyH_ready (rs := [5]) (by kernel_rfl) (by simp) ?_
          refine AllReadyH.cons (o := _) rfl (fun K hK => ?_) ?_
          ·
            rw [if_pos (by rfl)]
            refine wp_store_row 24 _ _ rfl (y2.heap.size) _ rfl rfl 24 _ c7 feInfo rfl (feC_one _) ?_
            refine hK.out _ _ (hHeld.setRowNew b7 _) (fun hHeld => ?_)
            replace c7 := c7.setRow (feC q)
            clear hK K
            try simp only [Act.put, List.setIfInBounds_toArray, List.set_cons_zero, List.set_cons_succ]
            refine wpAnyH_done (by kernel_rfl) ?_ _
            exact ⟨(y2.heap.size), rfl, b7, c7, hHeld⟩
          exact AllReadyH.nil
        exact AllReadyH.nil
      exact AllReadyH.nil
    exact AllReadyH.nil
  rintro a' z0 ⟨g6, rfl, b6, F6, k⟩
  have sa : w.heap.size + 1 + 1 < y2.heap.size := F2.lt
  replace F2 := F2.chg k (by simp)
  replace CC := CC.trans1 k
  clear k
  clear F0 F1
  go_wp2_with (refine wpList_load_row rfl 24 _ rfl g6 rfl 24 _ (0, 0) _ F6 Try.underlying24 rfl feInfo ?_)
  refine (Legendre_r q rq lg hl.out _).mono ?_
  rintro e y3 ⟨rfl, k⟩
  replace F2 := F2.chg k (by simp)
  replace F6 := F6.chg k (by simp)
  replace CC := CC.trans1 k
  clear k
  go_wp2_with fail
  replace F2 := F2.drew
  refine wp_region_held_drew (S := fun w' => Blk w' g6 (feC q) 24 ∧ Chg w w' []) (by kernel_rfl) (⟨F6.drew, CC.drew⟩) (fun hHeld => ?_)
  refine take_load 0 (some 26) (feC q) rfl (by kernel_rfl) (by kernel_rfl) (by kernel_rfl) (fun _ _ _ h => h) rfl rfl 24 _ rfl g6 rfl 24 _ (fun w h => h.1) Try.underlying24 rfl (by first | exact feInfo | kernel_rfl) hHeld ?_
  try simp only [Act.put, List.setIfInBounds_toArray, List.set_cons_zero, List.set_cons_succ]
  refine wpAnyH_ready (rs := [1]) (by kernel_rfl) (by simp) ?_
  refine AllReadyH.cons (o := _) rfl (fun K hK => ?_) ?_
  ·
    go_simp
    refine (SqrtM1_r _).mono ?_
    rintro e z1 ⟨rfl, k⟩
    replace F2 := F2.chg k (by simp)
    go_wp2_with fail
    refine hK.out _ _ (⟨hHeld.1.chg k (by simp), hHeld.2.trans1 k⟩) (fun hHeld => ?_)
    clear hK K
    try simp only [Act.put, List.setIfInBounds_toArray, List.set_cons_zero, List.set_cons_succ]
    refine wpAnyH_ready (rs := [2]) (by kernel_rfl) (by simp) ?_
    refine AllReadyH.cons (o := _) rfl (fun K hK => ?_) ?_
    ·
      go_simp
      refine (Mul_r q S1 rq r256_S1 _).mono ?_
      rintro e z2 ⟨rfl, k⟩
      rw [hd.out]
      replace F2 := F2.chg k (by simp)
      go_wp2_with fail
      refine hK.out _ _ (⟨hHeld.1.chg k (by simp), hHeld.2.trans1 k⟩) (fun hHeld => ?_)
      clear hK K
      try simp only [Act.put, List.setIfInBounds_toArray, List.set_cons_zero, List.set_cons_succ]
      refine wpAnyH_ready (rs := [3]) (by kernel_rfl) (by simp) ?_
      refine AllReadyH.cons (o := _) rfl (fun K hK => ?_) ?_
      ·
        go_simp
        refine (root_r d rdd _).mono ?_
        rintro e z3 ⟨rfl, k⟩
        rw [hr.out]
        replace F2 := F2.chg k (by simp)
        go_wp2_with fail
        refine hK.out _ _ (⟨hHeld.1.chg k (by simp), hHeld.2.trans1 k⟩) (fun hHeld => ?_)
        clear hK K
        try simp only [Act.put, List.setIfInBounds_toArray, List.set_cons_zero, List.set_cons_succ]
        refine wpAnyH_ready (rs := [4]) (by kernel_rfl) (by simp) ?_
        refine AllReadyH.cons (o := _) rfl (fun K hK => ?_) ?_
        ·
          rw [if_pos (by rfl)]
          refine wp_store_row 24 _ _ rfl (w.heap.size + 1 + 1) _ rfl rfl 24 _ F2 feInfo rfl (feC_one _) ?_
          refine hK.out _ _ (⟨hHeld.1.setRowOther (by omega) _, hHeld.2.setRowNew (by omega) _⟩) (fun hHeld => ?_)
          clear hK K
          try simp only [Act.put, List.setIfInBounds_toArray, List.set_cons_zero, List.set_cons_succ]
          refine take_val (v := ?_) 5 (some 5) rfl (by kernel_rfl) (by kernel_rfl) (by kernel_rfl) (fun _ _ _ h => h) rfl rfl (fun w hSw => ?_) hHeld ?_
          rotate_left
          · (go_simp; try with_reducible rfl)
          try simp only [Act.put, List.setIfInBounds_toArray, List.set_cons_zero, List.set_cons_succ]
          refine wpAnyH_done (by kernel_rfl) ?_ _
          replace F2 := F2.setRow (feC r)
          replace CC := hHeld.2
          clear hHeld
          go_wp2_with fail
          exact bodyPost_ret (results_cell_tmp Try.results52 _ _ (w.heap.size + 1 + 1) 24 (feC r) _ _ rfl rfl F2 Try.underlying24 rfl feInfo) rfl ⟨rfl, CC⟩
        exact AllReadyH.nil
      exact AllReadyH.nil
    exact AllReadyH.nil
  exact AllReadyH.nil

end Go.Proofs.Ytialljmkkichiaa
