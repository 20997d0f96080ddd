/- ScalarField: a is not 0: the walk. -/
import Derived.Test.YtcdgkhejbdlapabFieldOps
set_option linter.unusedVariables false
set_option linter.unusedSimpArgs false
set_option linter.unnecessarySimpa false
namespace Go.Proofs.Ytcdgkhejbdlapab
open Go.RowKit N

set_option maxHeartbeats 16000000 in
set_option maxRecDepth 100000 in
theorem field_not (a b c : Int) (ra : R256 a) (rb : R256 b) (rc : R256 c) (t : Bool) (HT : eqf a (cn a) = t) (HC : eqf (ad a 0) (cn (ad a 0)) = true) (HK : cmpI (cn a) (cn (ad a 0)) = 0) (HZ : eqn (cn a) 0 = false) (w : World) (E0 : eqf (ad a b) (ad b a) = true) (E1 : eqf (ml a b) (ml b a) = true) (E2 : eqf (ad (ad a b) c) (ad a (ad b c)) = true) (E3 : eqf (ml (ml a b) c) (ml a (ml b c)) = true) (E4 : eqf (ml a (ad b c)) (ad (ml a b) (ml a c)) = true) (E5 : eqf (ma a b c) (ad (ml a b) c) = true) (E6 : eqf (ml a 1) (ad a 0) = true) (E7 : eqf (ad a (ng a)) 0 = true) (E8 : eqf (sb a b) (ad a (ng b)) = true) (E9 : eqf (ad a 0) a = t) (E10 : eqf (ad a 0) 0 = false) (E11 : eqf (ml a (iv a)) 1 = true) :
    Calls Try.prog 3 #[fe a, fe b, fe c] w fun e w' => e = .returned (.bool true) ∧ Chg w w' [] := by
  have hge := feGuard
  have F0 : Blk (((w.alloc (.cells (feC a) 23)).alloc (.cells (feC b) 23)).alloc (.cells (feC c) 23)) w.heap.size (feC a) 23 := ((Blk.new w (feC a) 23).alloc _).alloc _
  have F1 : Blk (((w.alloc (.cells (feC a) 23)).alloc (.cells (feC b) 23)).alloc (.cells (feC c) 23)) (w.heap.size + 1) (feC b) 23 := by have h := (Blk.new (w.alloc (.cells (feC a) 23)) (feC b) 23).alloc (.cells (feC c) 23); simpa using h
  have F2 : Blk (((w.alloc (.cells (feC a) 23)).alloc (.cells (feC b) 23)).alloc (.cells (feC c) 23)) (w.heap.size + 1 + 1) (feC c) 23 := by have h := Blk.new ((w.alloc (.cells (feC a) 23)).alloc (.cells (feC b) 23)) (feC c) 23; simpa using h
  have CC : Chg w (((w.alloc (.cells (feC a) 23)).alloc (.cells (feC b) 23)).alloc (.cells (feC c) 23)) [] := (((Chg.refl w []).alloc (.cells (feC a) 23)).alloc (.cells (feC b) 23)).alloc (.cells (feC c) 23)
  go_enter Try.func3, Try.ntmps3
  have G1 : Blk ((((w.alloc (.cells (feC a) 23)).alloc (.cells (feC b) 23)).alloc (.cells (feC c) 23)).alloc (.cells z32 23)) (w.heap.size + 3) z32 23 := by have h := Blk.new (((w.alloc (.cells (feC a) 23)).alloc (.cells (feC b) 23)).alloc (.cells (feC c) 23)) z32 23; simpa using h
  have G2 : Blk (((((w.alloc (.cells (feC a) 23)).alloc (.cells (feC b) 23)).alloc (.cells (feC c) 23)).alloc (.cells z32 23)).setRow (w.heap.size + 3) (feC 0)) (w.heap.size + 3) (feC 0) 23 := G1.setRow _
  have G3 : Blk ((((((w.alloc (.cells (feC a) 23)).alloc (.cells (feC b) 23)).alloc (.cells (feC c) 23)).alloc (.cells z32 23)).setRow (w.heap.size + 3) (feC 0)).alloc (.cells z32 23)) (w.heap.size + 4) z32 23 := by have h := Blk.new (((((w.alloc (.cells (feC a) 23)).alloc (.cells (feC b) 23)).alloc (.cells (feC c) 23)).alloc (.cells z32 23)).setRow (w.heap.size + 3) (feC 0)) z32 23; simpa using h
  go_wp2_with (first | (refine wpList_store_row rfl 23 _ _ rfl (w.heap.size + 3) _ rfl rfl 23 _ G1 feInfo rfl (feC_one _) ?_) | (refine wpList_store_row rfl 23 _ _ rfl (w.heap.size + 4) _ rfl rfl 23 _ G3 feInfo rfl (feC_one _) ?_) | (refine gl_build (by rfl) 23 #[] rfl (feC 0) (by kernel_rfl) ?_) | (refine gl_build (by rfl) 23 #[(0, .const (.int .u8 1))] rfl (feC 1) (by kernel_rfl) ?_))
  replace F0 : Blk (((((((w.alloc (.cells (feC a) 23)).alloc (.cells (feC b) 23)).alloc (.cells (feC c) 23)).alloc (.cells z32 23)).setRow (w.heap.size + 3) (feC 0)).alloc (.cells z32 23)).setRow (w.heap.size + 4) (feC 1)) w.heap.size (feC a) 23 := (((F0.alloc (.cells z32 23)).setRowOther (by omega) _).alloc (.cells z32 23)).setRowOther (by omega) _
  replace F1 : Blk (((((((w.alloc (.cells (feC a) 23)).alloc (.cells (feC b) 23)).alloc (.cells (feC c) 23)).alloc (.cells z32 23)).setRow (w.heap.size + 3) (feC 0)).alloc (.cells z32 23)).setRow (w.heap.size + 4) (feC 1)) (w.heap.size + 1) (feC b) 23 := (((F1.alloc (.cells z32 23)).setRowOther (by omega) _).alloc (.cells z32 23)).setRowOther (by omega) _
  replace F2 : Blk (((((((w.alloc (.cells (feC a) 23)).alloc (.cells (feC b) 23)).alloc (.cells (feC c) 23)).alloc (.cells z32 23)).setRow (w.heap.size + 3) (feC 0)).alloc (.cells z32 23)).setRow (w.heap.size + 4) (feC 1)) (w.heap.size + 1 + 1) (feC c) 23 := (((F2.alloc (.cells z32 23)).setRowOther (by omega) _).alloc (.cells z32 23)).setRowOther (by omega) _
  have F7 : Blk (((((((w.alloc (.cells (feC a) 23)).alloc (.cells (feC b) 23)).alloc (.cells (feC c) 23)).alloc (.cells z32 23)).setRow (w.heap.size + 3) (feC 0)).alloc (.cells z32 23)).setRow (w.heap.size + 4) (feC 1)) (w.heap.size + 3) (feC 0) 23 := (G2.alloc (.cells z32 23)).setRowOther (by omega) _
  have F8 : Blk (((((((w.alloc (.cells (feC a) 23)).alloc (.cells (feC b) 23)).alloc (.cells (feC c) 23)).alloc (.cells z32 23)).setRow (w.heap.size + 3) (feC 0)).alloc (.cells z32 23)).setRow (w.heap.size + 4) (feC 1)) (w.heap.size + 4) (feC 1) 23 := G3.setRow _
  replace CC : Chg w (((((((w.alloc (.cells (feC a) 23)).alloc (.cells (feC b) 23)).alloc (.cells (feC c) 23)).alloc (.cells z32 23)).setRow (w.heap.size + 3) (feC 0)).alloc (.cells z32 23)).setRow (w.heap.size + 4) (feC 1)) [] := (((CC.alloc (.cells z32 23)).setRowNew (by omega) _).alloc (.cells z32 23)).setRowNew (by omega) _
  generalize hv0 : ((((((w.alloc (.cells (feC a) 23)).alloc (.cells (feC b) 23)).alloc (.cells (feC c) 23)).alloc (.cells z32 23)).setRow (w.heap.size + 3) (feC 0)).alloc (.cells z32 23)).setRow (w.heap.size + 4) (feC 1) = v0 at F0 F1 F2 F7 F8 CC
  try (change Code.wp _ _ _ _ (((((((w.alloc (.cells (feC a) 23)).alloc (.cells (feC b) 23)).alloc (.cells (feC c) 23)).alloc (.cells z32 23)).setRow (w.heap.size + 3) (feC 0)).alloc (.cells z32 23)).setRow (w.heap.size + 4) (feC 1)); rw [hv0])
  clear hv0 G1 G2 G3
  refine wp_region_held_drew (S := fun w' => Chg v0 w' []) (by kernel_rfl) ((Chg.refl v0 []).drew) (fun hHeld => ?_)
  refine take_load 0 (some 14) (feC a) rfl (by kernel_rfl) (by kernel_rfl) (by kernel_rfl) (fun _ _ _ h => h) rfl rfl 23 _ rfl w.heap.size rfl 23 _ (fun w h => F0.chg h (by simp)) Try.underlying23 rfl (by first | exact feInfo | kernel_rfl) hHeld ?_
  try simp only [Act.put, List.setIfInBounds_toArray, List.set_cons_zero, List.set_cons_succ]
  refine take_load 1 (some 15) (feC b) rfl (by kernel_rfl) (by kernel_rfl) (by kernel_rfl) (fun _ _ _ h => h) rfl rfl 23 _ rfl (w.heap.size + 1) rfl 23 _ (fun w h => F1.chg h (by simp)) Try.underlying23 rfl (by first | exact feInfo | kernel_rfl) hHeld ?_
  try simp only [Act.put, List.setIfInBounds_toArray, List.set_cons_zero, List.set_cons_succ]
  refine take_load 3 (some 17) (feC b) rfl (by kernel_rfl) (by kernel_rfl) (by kernel_rfl) (fun _ _ _ h => h) rfl rfl 23 _ rfl (w.heap.size + 1) rfl 23 _ (fun w h => F1.chg h (by simp)) Try.underlying23 rfl (by first | exact feInfo | kernel_rfl) hHeld ?_
  try simp only [Act.put, List.setIfInBounds_toArray, List.set_cons_zero, List.set_cons_succ]
  refine take_load 4 (some 18) (feC a) rfl (by kernel_rfl) (by kernel_rfl) (by kernel_rfl) (fun _ _ _ h => h) rfl rfl 23 _ rfl w.heap.size rfl 23 _ (fun w h => F0.chg h (by simp)) Try.underlying23 rfl (by first | exact feInfo | kernel_rfl) hHeld ?_
  try simp only [Act.put, List.setIfInBounds_toArray, List.set_cons_zero, List.set_cons_succ]
  refine wpAnyH_ready (rs := [2]) (by kernel_rfl) (by simp) ?_
  refine AllReadyH.cons (o := _) rfl (fun K hK => ?_) ?_
  ·
    go_simp
    refine (Add_o a b ra rb _).mono ?_
    rintro e x2 ⟨rfl, k⟩
    go_wp2_with fail
    refine hK.out _ _ (hHeld.trans1 k) (fun hHeld => ?_)
    clear hK K
    try simp only [Act.put, List.setIfInBounds_toArray, List.set_cons_zero, List.set_cons_succ]
    refine wpAnyH_ready (rs := [5]) (by kernel_rfl) (by simp) ?_
    refine AllReadyH.cons (o := _) rfl (fun K hK => ?_) ?_
    ·
      go_simp
      refine (Add_o b a rb ra _).mono ?_
      rintro e x5 ⟨rfl, k⟩
      go_wp2_with fail
      refine hK.out _ _ (hHeld.trans1 k) (fun hHeld => ?_)
      clear hK K
      try simp only [Act.put, List.setIfInBounds_toArray, List.set_cons_zero, List.set_cons_succ]
      refine take_val (v := (.bool false)) 6 (some 20) rfl (by kernel_rfl) (by kernel_rfl) (by kernel_rfl) (fun _ _ _ h => h) rfl rfl (fun w hSw => ?_) hHeld ?_
      · (go_simp; try with_reducible rfl)
      try simp only [Act.put, List.setIfInBounds_toArray, List.set_cons_zero, List.set_cons_succ]
      refine take_val (v := ?_) 7 (some 21) rfl (by kernel_rfl) (by kernel_rfl) (by kernel_rfl) (fun _ _ _ h => h) rfl rfl (fun w hSw => ?_) hHeld ?_
      rotate_left
      · (go_simp; try with_reducible rfl)
      try simp only [Act.put, List.setIfInBounds_toArray, List.set_cons_zero, List.set_cons_succ]
      refine take_load 8 (some 22) (feC a) rfl (by kernel_rfl) (by kernel_rfl) (by kernel_rfl) (fun _ _ _ h => h) rfl rfl 23 _ rfl w.heap.size rfl 23 _ (fun w h => F0.chg h (by simp)) Try.underlying23 rfl (by first | exact feInfo | kernel_rfl) hHeld ?_
      try simp only [Act.put, List.setIfInBounds_toArray, List.set_cons_zero, List.set_cons_succ]
      refine take_load 9 (some 23) (feC b) rfl (by kernel_rfl) (by kernel_rfl) (by kernel_rfl) (fun _ _ _ h => h) rfl rfl 23 _ rfl (w.heap.size + 1) rfl 23 _ (fun w h => F1.chg h (by simp)) Try.underlying23 rfl (by first | exact feInfo | kernel_rfl) hHeld ?_
      try simp only [Act.put, List.setIfInBounds_toArray, List.set_cons_zero, List.set_cons_succ]
      refine take_load 11 (some 25) (feC b) rfl (by kernel_rfl) (by kernel_rfl) (by kernel_rfl) (fun _ _ _ h => h) rfl rfl 23 _ rfl (w.heap.size + 1) rfl 23 _ (fun w h => F1.chg h (by simp)) Try.underlying23 rfl (by first | exact feInfo | kernel_rfl) hHeld ?_
      try simp only [Act.put, List.setIfInBounds_toArray, List.set_cons_zero, List.set_cons_succ]
      refine take_load 12 (some 26) (feC a) rfl (by kernel_rfl) (by kernel_rfl) (by kernel_rfl) (fun _ _ _ h => h) rfl rfl 23 _ rfl w.heap.size rfl 23 _ (fun w h => F0.chg h (by simp)) Try.underlying23 rfl (by first | exact feInfo | kernel_rfl) hHeld ?_
      try simp only [Act.put, List.setIfInBounds_toArray, List.set_cons_zero, List.set_cons_succ]
      refine wpAnyH_ready (rs := [10]) (by kernel_rfl) (by simp) ?_
      refine AllReadyH.cons (o := _) rfl (fun K hK => ?_) ?_
      ·
        go_simp
        refine (Mul_o a b ra rb _).mono ?_
        rintro e x10 ⟨rfl, k⟩
        go_wp2_with fail
        refine hK.out _ _ (hHeld.trans1 k) (fun hHeld => ?_)
        clear hK K
        try simp only [Act.put, List.setIfInBounds_toArray, List.set_cons_zero, List.set_cons_succ]
        refine wpAnyH_ready (rs := [13]) (by kernel_rfl) (by simp) ?_
        refine AllReadyH.cons (o := _) rfl (fun K hK => ?_) ?_
        ·
          go_simp
          refine (Mul_o b a rb ra _).mono ?_
          rintro e x13 ⟨rfl, k⟩
          go_wp2_with fail
          refine hK.out _ _ (hHeld.trans1 k) (fun hHeld => ?_)
          clear hK K
          try simp only [Act.put, List.setIfInBounds_toArray, List.set_cons_zero, List.set_cons_succ]
          refine take_val (v := (.bool false)) 14 (some 28) rfl (by kernel_rfl) (by kernel_rfl) (by kernel_rfl) (fun _ _ _ h => h) rfl rfl (fun w hSw => ?_) hHeld ?_
          · (go_simp; try with_reducible rfl)
          try simp only [Act.put, List.setIfInBounds_toArray, List.set_cons_zero, List.set_cons_succ]
          refine take_val (v := ?_) 15 (some 29) rfl (by kernel_rfl) (by kernel_rfl) (by kernel_rfl) (fun _ _ _ h => h) rfl rfl (fun w hSw => ?_) hHeld ?_
          rotate_left
          · (go_simp; try with_reducible rfl)
          try simp only [Act.put, List.setIfInBounds_toArray, List.set_cons_zero, List.set_cons_succ]
          refine take_val (v := ?_) 16 (some 30) rfl (by kernel_rfl) (by kernel_rfl) (by kernel_rfl) (fun _ _ _ h => h) rfl rfl (fun w hSw => ?_) hHeld ?_
          rotate_left
          · (go_simp; try with_reducible rfl)
          try simp only [Act.put, List.setIfInBounds_toArray, List.set_cons_zero, List.set_cons_succ]
          refine take_load 17 (some 31) (feC a) rfl (by kernel_rfl) (by kernel_rfl) (by kernel_rfl) (fun _ _ _ h => h) rfl rfl 23 _ rfl w.heap.size rfl 23 _ (fun w h => F0.chg h (by simp)) Try.underlying23 rfl (by first | exact feInfo | kernel_rfl) hHeld ?_
          try simp only [Act.put, List.setIfInBounds_toArray, List.set_cons_zero, List.set_cons_succ]
          refine take_load 18 (some 32) (feC b) rfl (by kernel_rfl) (by kernel_rfl) (by kernel_rfl) (fun _ _ _ h => h) rfl rfl 23 _ rfl (w.heap.size + 1) rfl 23 _ (fun w h => F1.chg h (by simp)) Try.underlying23 rfl (by first | exact feInfo | kernel_rfl) hHeld ?_
          try simp only [Act.put, List.setIfInBounds_toArray, List.set_cons_zero, List.set_cons_succ]
          refine take_load 20 (some 34) (feC c) rfl (by kernel_rfl) (by kernel_rfl) (by kernel_rfl) (fun _ _ _ h => h) rfl rfl 23 _ rfl (w.heap.size + 1 + 1) rfl 23 _ (fun w h => F2.chg h (by simp)) Try.underlying23 rfl (by first | exact feInfo | kernel_rfl) hHeld ?_
          try simp only [Act.put, List.setIfInBounds_toArray, List.set_cons_zero, List.set_cons_succ]
          refine take_load 22 (some 36) (feC a) rfl (by kernel_rfl) (by kernel_rfl) (by kernel_rfl) (fun _ _ _ h => h) rfl rfl 23 _ rfl w.heap.size rfl 23 _ (fun w h => F0.chg h (by simp)) Try.underlying23 rfl (by first | exact feInfo | kernel_rfl) hHeld ?_
          try simp only [Act.put, List.setIfInBounds_toArray, List.set_cons_zero, List.set_cons_succ]
          refine take_load 23 (some 37) (feC b) rfl (by kernel_rfl) (by kernel_rfl) (by kernel_rfl) (fun _ _ _ h => h) rfl rfl 23 _ rfl (w.heap.size + 1) rfl 23 _ (fun w h => F1.chg h (by simp)) Try.underlying23 rfl (by first | exact feInfo | kernel_rfl) hHeld ?_
          try simp only [Act.put, List.setIfInBounds_toArray, List.set_cons_zero, List.set_cons_succ]
          refine take_load 24 (some 38) (feC c) rfl (by kernel_rfl) (by kernel_rfl) (by kernel_rfl) (fun _ _ _ h => h) rfl rfl 23 _ rfl (w.heap.size + 1 + 1) rfl 23 _ (fun w h => F2.chg h (by simp)) Try.underlying23 rfl (by first | exact feInfo | kernel_rfl) hHeld ?_
          try simp only [Act.put, List.setIfInBounds_toArray, List.set_cons_zero, List.set_cons_succ]
          refine wpAnyH_ready (rs := [19]) (by kernel_rfl) (by simp) ?_
          refine AllReadyH.cons (o := _) rfl (fun K hK => ?_) ?_
          ·
            go_simp
            refine (Add_o a b ra rb _).mono ?_
            rintro e x19 ⟨rfl, k⟩
            go_wp2_with fail
            refine hK.out _ _ (hHeld.trans1 k) (fun hHeld => ?_)
            clear hK K
            try simp only [Act.put, List.setIfInBounds_toArray, List.set_cons_zero, List.set_cons_succ]
            refine wpAnyH_ready (rs := [21]) (by kernel_rfl) (by simp) ?_
            refine AllReadyH.cons (o := _) rfl (fun K hK => ?_) ?_
            ·
              go_simp
              refine (Add_o (ad a b) c (r256_mod _) rc _).mono ?_
              rintro e x21 ⟨rfl, k⟩
              go_wp2_with fail
              refine hK.out _ _ (hHeld.trans1 k) (fun hHeld => ?_)
              clear hK K
              try simp only [Act.put, List.setIfInBounds_toArray, List.set_cons_zero, List.set_cons_succ]
              refine wpAnyH_ready (rs := [25]) (by kernel_rfl) (by simp) ?_
              refine AllReadyH.cons (o := _) rfl (fun K hK => ?_) ?_
              ·
                go_simp
                refine (Add_o b c rb rc _).mono ?_
                rintro e x25 ⟨rfl, k⟩
                go_wp2_with fail
                refine hK.out _ _ (hHeld.trans1 k) (fun hHeld => ?_)
                clear hK K
                try simp only [Act.put, List.setIfInBounds_toArray, List.set_cons_zero, List.set_cons_succ]
                refine wpAnyH_ready (rs := [26]) (by kernel_rfl) (by simp) ?_
                refine AllReadyH.cons (o := _) rfl (fun K hK => ?_) ?_
                ·
                  go_simp
                  refine (Add_o a (ad b c) ra (r256_mod _) _).mono ?_
                  rintro e x26 ⟨rfl, k⟩
                  go_wp2_with fail
                  refine hK.out _ _ (hHeld.trans1 k) (fun hHeld => ?_)
                  clear hK K
                  try simp only [Act.put, List.setIfInBounds_toArray, List.set_cons_zero, List.set_cons_succ]
                  refine take_val (v := (.bool false)) 27 (some 41) rfl (by kernel_rfl) (by kernel_rfl) (by kernel_rfl) (fun _ _ _ h => h) rfl rfl (fun w hSw => ?_) hHeld ?_
                  · (go_simp; try with_reducible rfl)
                  try simp only [Act.put, List.setIfInBounds_toArray, List.set_cons_zero, List.set_cons_succ]
                  refine take_val (v := ?_) 28 (some 42) rfl (by kernel_rfl) (by kernel_rfl) (by kernel_rfl) (fun _ _ _ h => h) rfl rfl (fun w hSw => ?_) hHeld ?_
                  rotate_left
                  · (go_simp; try with_reducible rfl)
                  try simp only [Act.put, List.setIfInBounds_toArray, List.set_cons_zero, List.set_cons_succ]
                  refine take_val (v := ?_) 29 (some 43) rfl (by kernel_rfl) (by kernel_rfl) (by kernel_rfl) (fun _ _ _ h => h) rfl rfl (fun w hSw => ?_) hHeld ?_
                  rotate_left
                  · (go_simp; try with_reducible rfl)
                  try simp only [Act.put, List.setIfInBounds_toArray, List.set_cons_zero, List.set_cons_succ]
                  refine take_load 30 (some 44) (feC a) rfl (by kernel_rfl) (by kernel_rfl) (by kernel_rfl) (fun _ _ _ h => h) rfl rfl 23 _ rfl w.heap.size rfl 23 _ (fun w h => F0.chg h (by simp)) Try.underlying23 rfl (by first | exact feInfo | kernel_rfl) hHeld ?_
                  try simp only [Act.put, List.setIfInBounds_toArray, List.set_cons_zero, List.set_cons_succ]
                  refine take_load 31 (some 45) (feC b) rfl (by kernel_rfl) (by kernel_rfl) (by kernel_rfl) (fun _ _ _ h => h) rfl rfl 23 _ rfl (w.heap.size + 1) rfl 23 _ (fun w h => F1.chg h (by simp)) Try.underlying23 rfl (by first | exact feInfo | kernel_rfl) hHeld ?_
                  try simp only [Act.put, List.setIfInBounds_toArray, List.set_cons_zero, List.set_cons_succ]
                  refine take_load 33 (some 47) (feC c) rfl (by kernel_rfl) (by kernel_rfl) (by kernel_rfl) (fun _ _ _ h => h) rfl rfl 23 _ rfl (w.heap.size + 1 + 1) rfl 23 _ (fun w h => F2.chg h (by simp)) Try.underlying23 rfl (by first | exact feInfo | kernel_rfl) hHeld ?_
                  try simp only [Act.put, List.setIfInBounds_toArray, List.set_cons_zero, List.set_cons_succ]
                  refine take_load 35 (some 49) (feC a) rfl (by kernel_rfl) (by kernel_rfl) (by kernel_rfl) (fun _ _ _ h => h) rfl rfl 23 _ rfl w.heap.size rfl 23 _ (fun w h => F0.chg h (by simp)) Try.underlying23 rfl (by first | exact feInfo | kernel_rfl) hHeld ?_
                  try simp only [Act.put, List.setIfInBounds_toArray, List.set_cons_zero, List.set_cons_succ]
                  refine take_load 36 (some 50) (feC b) rfl (by kernel_rfl) (by kernel_rfl) (by kernel_rfl) (fun _ _ _ h => h) rfl rfl 23 _ rfl (w.heap.size + 1) rfl 23 _ (fun w h => F1.chg h (by simp)) Try.underlying23 rfl (by first | exact feInfo | kernel_rfl) hHeld ?_
                  try simp only [Act.put, List.setIfInBounds_toArray, List.set_cons_zero, List.set_cons_succ]
                  refine take_load 37 (some 51) (feC c) rfl (by kernel_rfl) (by kernel_rfl) (by kernel_rfl) (fun _ _ _ h => h) rfl rfl 23 _ rfl (w.heap.size + 1 + 1) rfl 23 _ (fun w h => F2.chg h (by simp)) Try.underlying23 rfl (by first | exact feInfo | kernel_rfl) hHeld ?_
                  try simp only [Act.put, List.setIfInBounds_toArray, List.set_cons_zero, List.set_cons_succ]
                  refine wpAnyH_ready (rs := [32]) (by kernel_rfl) (by simp) ?_
                  refine AllReadyH.cons (o := _) rfl (fun K hK => ?_) ?_
                  ·
                    go_simp
                    refine (Mul_o a b ra rb _).mono ?_
                    rintro e x32 ⟨rfl, k⟩
                    go_wp2_with fail
                    refine hK.out _ _ (hHeld.trans1 k) (fun hHeld => ?_)
                    clear hK K
                    try simp only [Act.put, List.setIfInBounds_toArray, List.set_cons_zero, List.set_cons_succ]
                    refine wpAnyH_ready (rs := [34]) (by kernel_rfl) (by simp) ?_
                    refine AllReadyH.cons (o := _) rfl (fun K hK => ?_) ?_
                    ·
                      go_simp
                      refine (Mul_o (ml a b) c (r256_mod _) rc _).mono ?_
                      rintro e x34 ⟨rfl, k⟩
                      go_wp2_with fail
                      refine hK.out _ _ (hHeld.trans1 k) (fun hHeld => ?_)
                      clear hK K
                      try simp only [Act.put, List.setIfInBounds_toArray, List.set_cons_zero, List.set_cons_succ]
                      refine wpAnyH_ready (rs := [38]) (by kernel_rfl) (by simp) ?_
                      refine AllReadyH.cons (o := _) rfl (fun K hK => ?_) ?_
                      ·
                        go_simp
                        refine (Mul_o b c rb rc _).mono ?_
                        rintro e x38 ⟨rfl, k⟩
                        go_wp2_with fail
                        refine hK.out _ _ (hHeld.trans1 k) (fun hHeld => ?_)
                        clear hK K
                        try simp only [Act.put, List.setIfInBounds_toArray, List.set_cons_zero, List.set_cons_succ]
                        refine wpAnyH_ready (rs := [39]) (by kernel_rfl) (by simp) ?_
                        refine AllReadyH.cons (o := _) rfl (fun K hK => ?_) ?_
                        ·
                          go_simp
                          refine (Mul_o a (ml b c) ra (r256_mod _) _).mono ?_
                          rintro e x39 ⟨rfl, k⟩
                          go_wp2_with fail
                          refine hK.out _ _ (hHeld.trans1 k) (fun hHeld => ?_)
                          clear hK K
                          try simp only [Act.put, List.setIfInBounds_toArray, List.set_cons_zero, List.set_cons_succ]
                          refine take_val (v := (.bool false)) 40 (some 54) rfl (by kernel_rfl) (by kernel_rfl) (by kernel_rfl) (fun _ _ _ h => h) rfl rfl (fun w hSw => ?_) hHeld ?_
                          · (go_simp; try with_reducible rfl)
                          try simp only [Act.put, List.setIfInBounds_toArray, List.set_cons_zero, List.set_cons_succ]
                          refine take_val (v := ?_) 41 (some 55) rfl (by kernel_rfl) (by kernel_rfl) (by kernel_rfl) (fun _ _ _ h => h) rfl rfl (fun w hSw => ?_) hHeld ?_
                          rotate_left
                          · (go_simp; try with_reducible rfl)
                          try simp only [Act.put, List.setIfInBounds_toArray, List.set_cons_zero, List.set_cons_succ]
                          refine wpAnyH_done (by kernel_rfl) ?_ _
                          obtain ⟨v1, hw⟩ : ∃ x, x = x39 := ⟨_, rfl⟩
                          rw [← hw] at hHeld ⊢
                          replace F0 := F0.chg hHeld (by simp)
                          replace F1 := F1.chg hHeld (by simp)
                          replace F2 := F2.chg hHeld (by simp)
                          replace F7 := F7.chg hHeld (by simp)
                          replace F8 := F8.chg hHeld (by simp)
                          replace CC := CC.trans1 hHeld
                          clear hw hHeld k
                          go_wp2_with fail
                          refine wp_region_held_drew (S := fun w' => Chg v1 w' []) (by kernel_rfl) ((Chg.refl v1 []).drew) (fun hHeld => ?_)
                          refine take_load 0 (some 56) (feC a) rfl (by kernel_rfl) (by kernel_rfl) (by kernel_rfl) (fun _ _ _ h => h) rfl rfl 23 _ rfl w.heap.size rfl 23 _ (fun w h => F0.chg h (by simp)) Try.underlying23 rfl (by first | exact feInfo | kernel_rfl) hHeld ?_
                          try simp only [Act.put, List.setIfInBounds_toArray, List.set_cons_zero, List.set_cons_succ]
                          refine take_load 1 (some 57) (feC b) rfl (by kernel_rfl) (by kernel_rfl) (by kernel_rfl) (fun _ _ _ h => h) rfl rfl 23 _ rfl (w.heap.size + 1) rfl 23 _ (fun w h => F1.chg h (by simp)) Try.underlying23 rfl (by first | exact feInfo | kernel_rfl) hHeld ?_
                          try simp only [Act.put, List.setIfInBounds_toArray, List.set_cons_zero, List.set_cons_succ]
                          refine take_load 2 (some 58) (feC c) rfl (by kernel_rfl) (by kernel_rfl) (by kernel_rfl) (fun _ _ _ h => h) rfl rfl 23 _ rfl (w.heap.size + 1 + 1) rfl 23 _ (fun w h => F2.chg h (by simp)) Try.underlying23 rfl (by first | exact feInfo | kernel_rfl) hHeld ?_
                          try simp only [Act.put, List.setIfInBounds_toArray, List.set_cons_zero, List.set_cons_succ]
                          refine take_load 5 (some 61) (feC a) rfl (by kernel_rfl) (by kernel_rfl) (by kernel_rfl) (fun _ _ _ h => h) rfl rfl 23 _ rfl w.heap.size rfl 23 _ (fun w h => F0.chg h (by simp)) Try.underlying23 rfl (by first | exact feInfo | kernel_rfl) hHeld ?_
                          try simp only [Act.put, List.setIfInBounds_toArray, List.set_cons_zero, List.set_cons_succ]
                          refine take_load 6 (some 62) (feC b) rfl (by kernel_rfl) (by kernel_rfl) (by kernel_rfl) (fun _ _ _ h => h) rfl rfl 23 _ rfl (w.heap.size + 1) rfl 23 _ (fun w h => F1.chg h (by simp)) Try.underlying23 rfl (by first | exact feInfo | kernel_rfl) hHeld ?_
                          try simp only [Act.put, List.setIfInBounds_toArray, List.set_cons_zero, List.set_cons_succ]
                          refine take_load 8 (some 64) (feC a) rfl (by kernel_rfl) (by kernel_rfl) (by kernel_rfl) (fun _ _ _ h => h) rfl rfl 23 _ rfl w.heap.size rfl 23 _ (fun w h => F0.chg h (by simp)) Try.underlying23 rfl (by first | exact feInfo | kernel_rfl) hHeld ?_
                          try simp only [Act.put, List.setIfInBounds_toArray, List.set_cons_zero, List.set_cons_succ]
                          refine take_load 9 (some 65) (feC c) rfl (by kernel_rfl) (by kernel_rfl) (by kernel_rfl) (fun _ _ _ h => h) rfl rfl 23 _ rfl (w.heap.size + 1 + 1) rfl 23 _ (fun w h => F2.chg h (by simp)) Try.underlying23 rfl (by first | exact feInfo | kernel_rfl) hHeld ?_
                          try simp only [Act.put, List.setIfInBounds_toArray, List.set_cons_zero, List.set_cons_succ]
                          refine wpAnyH_ready (rs := [3]) (by kernel_rfl) (by simp) ?_
                          refine AllReadyH.cons (o := _) rfl (fun K hK => ?_) ?_
                          ·
                            go_simp
                            refine (Add_o b c rb rc _).mono ?_
                            rintro e x3 ⟨rfl, k⟩
                            go_wp2_with fail
                            refine hK.out _ _ (hHeld.trans1 k) (fun hHeld => ?_)
                            clear hK K
                            try simp only [Act.put, List.setIfInBounds_toArray, List.set_cons_zero, List.set_cons_succ]
                            refine wpAnyH_ready (rs := [4]) (by kernel_rfl) (by simp) ?_
                            refine AllReadyH.cons (o := _) rfl (fun K hK => ?_) ?_
                            ·
                              go_simp
                              refine (Mul_o a (ad b c) ra (r256_mod _) _).mono ?_
                              rintro e x4 ⟨rfl, k⟩
                              go_wp2_with fail
                              refine hK.out _ _ (hHeld.trans1 k) (fun hHeld => ?_)
                              clear hK K
                              try simp only [Act.put, List.setIfInBounds_toArray, List.set_cons_zero, List.set_cons_succ]
                              refine wpAnyH_ready (rs := [7]) (by kernel_rfl) (by simp) ?_
                              refine AllReadyH.cons (o := _) rfl (fun K hK => ?_) ?_
                              ·
                                go_simp
                                refine (Mul_o a b ra rb _).mono ?_
                                rintro e x7 ⟨rfl, k⟩
                                go_wp2_with fail
                                refine hK.out _ _ (hHeld.trans1 k) (fun hHeld => ?_)
                                clear hK K
                                try simp only [Act.put, List.setIfInBounds_toArray, List.set_cons_zero, List.set_cons_succ]
                                refine wpAnyH_ready (rs := [10]) (by kernel_rfl) (by simp) ?_
                                refine AllReadyH.cons (o := _) rfl (fun K hK => ?_) ?_
                                ·
                                  go_simp
                                  refine (Mul_o a c ra rc _).mono ?_
                                  rintro e x10 ⟨rfl, k⟩
                                  go_wp2_with fail
                                  refine hK.out _ _ (hHeld.trans1 k) (fun hHeld => ?_)
                                  clear hK K
                                  try simp only [Act.put, List.setIfInBounds_toArray, List.set_cons_zero, List.set_cons_succ]
                                  refine wpAnyH_ready (rs := [11]) (by kernel_rfl) (by simp) ?_
                                  refine AllReadyH.cons (o := _) rfl (fun K hK => ?_) ?_
                                  ·
                                    go_simp
                                    refine (Add_o (ml a b) (ml a c) (r256_mod _) (r256_mod _) _).mono ?_
                                    rintro e x11 ⟨rfl, k⟩
                                    go_wp2_with fail
                                    refine hK.out _ _ (hHeld.trans1 k) (fun hHeld => ?_)
                                    clear hK K
                                    try simp only [Act.put, List.setIfInBounds_toArray, List.set_cons_zero, List.set_cons_succ]
                                    refine take_val (v := (.bool false)) 12 (some 68) rfl (by kernel_rfl) (by kernel_rfl) (by kernel_rfl) (fun _ _ _ h => h) rfl rfl (fun w hSw => ?_) hHeld ?_
                                    · (go_simp; try with_reducible rfl)
                                    try simp only [Act.put, List.setIfInBounds_toArray, List.set_cons_zero, List.set_cons_succ]
                                    refine take_val (v := ?_) 13 (some 69) rfl (by kernel_rfl) (by kernel_rfl) (by kernel_rfl) (fun _ _ _ h => h) rfl rfl (fun w hSw => ?_) hHeld ?_
                                    rotate_left
                                    · (go_simp; try with_reducible rfl)
                                    try simp only [Act.put, List.setIfInBounds_toArray, List.set_cons_zero, List.set_cons_succ]
                                    refine take_load 14 (some 70) (feC a) rfl (by kernel_rfl) (by kernel_rfl) (by kernel_rfl) (fun _ _ _ h => h) rfl rfl 23 _ rfl w.heap.size rfl 23 _ (fun w h => F0.chg h (by simp)) Try.underlying23 rfl (by first | exact feInfo | kernel_rfl) hHeld ?_
                                    try simp only [Act.put, List.setIfInBounds_toArray, List.set_cons_zero, List.set_cons_succ]
                                    refine take_load 15 (some 71) (feC b) rfl (by kernel_rfl) (by kernel_rfl) (by kernel_rfl) (fun _ _ _ h => h) rfl rfl 23 _ rfl (w.heap.size + 1) rfl 23 _ (fun w h => F1.chg h (by simp)) Try.underlying23 rfl (by first | exact feInfo | kernel_rfl) hHeld ?_
                                    try simp only [Act.put, List.setIfInBounds_toArray, List.set_cons_zero, List.set_cons_succ]
                                    refine take_load 16 (some 72) (feC c) rfl (by kernel_rfl) (by kernel_rfl) (by kernel_rfl) (fun _ _ _ h => h) rfl rfl 23 _ rfl (w.heap.size + 1 + 1) rfl 23 _ (fun w h => F2.chg h (by simp)) Try.underlying23 rfl (by first | exact feInfo | kernel_rfl) hHeld ?_
                                    try simp only [Act.put, List.setIfInBounds_toArray, List.set_cons_zero, List.set_cons_succ]
                                    refine take_load 18 (some 74) (feC a) rfl (by kernel_rfl) (by kernel_rfl) (by kernel_rfl) (fun _ _ _ h => h) rfl rfl 23 _ rfl w.heap.size rfl 23 _ (fun w h => F0.chg h (by simp)) Try.underlying23 rfl (by first | exact feInfo | kernel_rfl) hHeld ?_
                                    try simp only [Act.put, List.setIfInBounds_toArray, List.set_cons_zero, List.set_cons_succ]
                                    refine take_load 19 (some 75) (feC b) rfl (by kernel_rfl) (by kernel_rfl) (by kernel_rfl) (fun _ _ _ h => h) rfl rfl 23 _ rfl (w.heap.size + 1) rfl 23 _ (fun w h => F1.chg h (by simp)) Try.underlying23 rfl (by first | exact feInfo | kernel_rfl) hHeld ?_
                                    try simp only [Act.put, List.setIfInBounds_toArray, List.set_cons_zero, List.set_cons_succ]
                                    refine take_load 21 (some 77) (feC c) rfl (by kernel_rfl) (by kernel_rfl) (by kernel_rfl) (fun _ _ _ h => h) rfl rfl 23 _ rfl (w.heap.size + 1 + 1) rfl 23 _ (fun w h => F2.chg h (by simp)) Try.underlying23 rfl (by first | exact feInfo | kernel_rfl) hHeld ?_
                                    try simp only [Act.put, List.setIfInBounds_toArray, List.set_cons_zero, List.set_cons_succ]
                                    refine wpAnyH_ready (rs := [17]) (by kernel_rfl) (by simp) ?_
                                    refine AllReadyH.cons (o := _) rfl (fun K hK => ?_) ?_
                                    ·
                                      go_simp
                                      refine (MulAdd_o a b c ra rb rc _).mono ?_
                                      rintro e x17 ⟨rfl, k⟩
                                      go_wp2_with fail
                                      refine hK.out _ _ (hHeld.trans1 k) (fun hHeld => ?_)
                                      clear hK K
                                      try simp only [Act.put, List.setIfInBounds_toArray, List.set_cons_zero, List.set_cons_succ]
                                      refine wpAnyH_ready (rs := [20]) (by kernel_rfl) (by simp) ?_
                                      refine AllReadyH.cons (o := _) rfl (fun K hK => ?_) ?_
                                      ·
                                        go_simp
                                        refine (Mul_o a b ra rb _).mono ?_
                                        rintro e x20 ⟨rfl, k⟩
                                        go_wp2_with fail
                                        refine hK.out _ _ (hHeld.trans1 k) (fun hHeld => ?_)
                                        clear hK K
                                        try simp only [Act.put, List.setIfInBounds_toArray, List.set_cons_zero, List.set_cons_succ]
                                        refine wpAnyH_ready (rs := [22]) (by kernel_rfl) (by simp) ?_
                                        refine AllReadyH.cons (o := _) rfl (fun K hK => ?_) ?_
                                        ·
                                          go_simp
                                          refine (Add_o (ml a b) c (r256_mod _) rc _).mono ?_
                                          rintro e x22 ⟨rfl, k⟩
                                          go_wp2_with fail
                                          refine hK.out _ _ (hHeld.trans1 k) (fun hHeld => ?_)
                                          clear hK K
                                          try simp only [Act.put, List.setIfInBounds_toArray, List.set_cons_zero, List.set_cons_succ]
                                          refine take_val (v := (.bool false)) 23 (some 79) rfl (by kernel_rfl) (by kernel_rfl) (by kernel_rfl) (fun _ _ _ h => h) rfl rfl (fun w hSw => ?_) hHeld ?_
                                          · (go_simp; try with_reducible rfl)
                                          try simp only [Act.put, List.setIfInBounds_toArray, List.set_cons_zero, List.set_cons_succ]
                                          refine take_val (v := ?_) 24 (some 80) rfl (by kernel_rfl) (by kernel_rfl) (by kernel_rfl) (fun _ _ _ h => h) rfl rfl (fun w hSw => ?_) hHeld ?_
                                          rotate_left
                                          · (go_simp; try with_reducible rfl)
                                          try simp only [Act.put, List.setIfInBounds_toArray, List.set_cons_zero, List.set_cons_succ]
                                          refine wpAnyH_done (by kernel_rfl) ?_ _
                                          obtain ⟨v2, hw⟩ : ∃ x, x = x22 := ⟨_, rfl⟩
                                          rw [← hw] at hHeld ⊢
                                          replace F0 := F0.chg hHeld (by simp)
                                          replace F1 := F1.chg hHeld (by simp)
                                          replace F2 := F2.chg hHeld (by simp)
                                          replace F7 := F7.chg hHeld (by simp)
                                          replace F8 := F8.chg hHeld (by simp)
                                          replace CC := CC.trans1 hHeld
                                          clear hw hHeld k
                                          go_wp2_with (first | (refine gl_load (by rfl) 23 _ rfl w.heap.size rfl 23 (feC a) _ F0 Try.underlying23 rfl feInfo ?_) | (refine gl_load (by rfl) 23 _ rfl (w.heap.size + 3) rfl 23 (feC 0) _ F7 Try.underlying23 rfl feInfo ?_))
                                          refine (Add_o a 0 ra r256_c0 _).mono ?_
                                          rintro e v3 ⟨rfl, k⟩
                                          replace F0 := F0.chg k (by simp)
                                          replace F1 := F1.chg k (by simp)
                                          replace F2 := F2.chg k (by simp)
                                          replace F7 := F7.chg k (by simp)
                                          replace F8 := F8.chg k (by simp)
                                          replace CC := CC.trans1 k
                                          clear k
                                          have H1 : Blk (v3.alloc (.cells z32 23)) v3.heap.size z32 23 := Blk.new v3 z32 23
                                          have lt8 := F8.lt
                                          go_wp2_with (refine wpList_store_row rfl 23 _ _ rfl v3.heap.size _ rfl rfl 23 _ H1 feInfo rfl (feC_one _) ?_)
                                          have F9 : Blk ((v3.alloc (.cells z32 23)).setRow v3.heap.size (feC (ad a 0))) v3.heap.size (feC (ad a 0)) 23 := H1.setRow _
                                          replace F0 := (F0.alloc (.cells z32 23)).setRowOther (d := v3.heap.size) (by omega) (feC (ad a 0))
                                          replace F1 := (F1.alloc (.cells z32 23)).setRowOther (d := v3.heap.size) (by omega) (feC (ad a 0))
                                          replace F2 := (F2.alloc (.cells z32 23)).setRowOther (d := v3.heap.size) (by omega) (feC (ad a 0))
                                          replace F7 := (F7.alloc (.cells z32 23)).setRowOther (d := v3.heap.size) (by omega) (feC (ad a 0))
                                          replace F8 := (F8.alloc (.cells z32 23)).setRowOther (d := v3.heap.size) (by omega) (feC (ad a 0))
                                          replace CC := (CC.alloc (.cells z32 23)).setRowNew CC.size (feC (ad a 0))
                                          clear H1
                                          generalize hvn : (v3.alloc (.cells z32 23)).setRow v3.heap.size (feC (ad a 0)) = v4 at F0 F1 F2 F7 F8 F9 CC
                                          change Code.wp _ _ _ _ ((v3.alloc (.cells z32 23)).setRow v3.heap.size (feC (ad a 0)))
                                          rw [hvn]
                                          clear hvn
                                          generalize v3.heap.size = gl at *
                                          refine wp_region_held_drew (S := fun w' => Chg v4 w' []) (by kernel_rfl) ((Chg.refl v4 []).drew) (fun hHeld => ?_)
                                          refine take_load 0 (some 84) (feC (ad a 0)) rfl (by kernel_rfl) (by kernel_rfl) (by kernel_rfl) (fun _ _ _ h => h) rfl rfl 23 _ rfl gl rfl 23 _ (fun w h => F9.chg h (by simp)) Try.underlying23 rfl (by first | exact feInfo | kernel_rfl) hHeld ?_
                                          try simp only [Act.put, List.setIfInBounds_toArray, List.set_cons_zero, List.set_cons_succ]
                                          refine wpAnyH_ready (rs := [1]) (by kernel_rfl) (by simp) ?_
                                          refine AllReadyH.cons (o := _) rfl (fun K hK => ?_) ?_
                                          ·
                                            go_simp
                                            refine (Canonical_is (ad a 0) (r256_mod _) true HC _).mono ?_
                                            rintro e x1 ⟨rfl, k⟩
                                            go_wp2_with fail
                                            refine hK.out _ _ (hHeld.trans1 k) (fun hHeld => ?_)
                                            clear hK K
                                            try simp only [Act.put, List.setIfInBounds_toArray, List.set_cons_zero, List.set_cons_succ]
                                            refine take_val (v := (.bool false)) 2 (some 86) rfl (by kernel_rfl) (by kernel_rfl) (by kernel_rfl) (fun _ _ _ h => h) rfl rfl (fun w hSw => ?_) hHeld ?_
                                            · (go_simp; try with_reducible rfl)
                                            try simp only [Act.put, List.setIfInBounds_toArray, List.set_cons_zero, List.set_cons_succ]
                                            refine take_val (v := ?_) 3 (some 87) rfl (by kernel_rfl) (by kernel_rfl) (by kernel_rfl) (fun _ _ _ h => h) rfl rfl (fun w hSw => ?_) hHeld ?_
                                            rotate_left
                                            · (go_simp; try with_reducible rfl)
                                            try simp only [Act.put, List.setIfInBounds_toArray, List.set_cons_zero, List.set_cons_succ]
                                            refine take_load 4 (some 88) (feC a) rfl (by kernel_rfl) (by kernel_rfl) (by kernel_rfl) (fun _ _ _ h => h) rfl rfl 23 _ rfl w.heap.size rfl 23 _ (fun w h => F0.chg h (by simp)) Try.underlying23 rfl (by first | exact feInfo | kernel_rfl) hHeld ?_
                                            try simp only [Act.put, List.setIfInBounds_toArray, List.set_cons_zero, List.set_cons_succ]
                                            refine take_load 5 (some 89) (feC 1) rfl (by kernel_rfl) (by kernel_rfl) (by kernel_rfl) (fun _ _ _ h => h) rfl rfl 23 _ rfl (w.heap.size + 4) rfl 23 _ (fun w h => F8.chg h (by simp)) Try.underlying23 rfl (by first | exact feInfo | kernel_rfl) hHeld ?_
                                            try simp only [Act.put, List.setIfInBounds_toArray, List.set_cons_zero, List.set_cons_succ]
                                            refine take_load 7 (some 91) (feC (ad a 0)) rfl (by kernel_rfl) (by kernel_rfl) (by kernel_rfl) (fun _ _ _ h => h) rfl rfl 23 _ rfl gl rfl 23 _ (fun w h => F9.chg h (by simp)) Try.underlying23 rfl (by first | exact feInfo | kernel_rfl) hHeld ?_
                                            try simp only [Act.put, List.setIfInBounds_toArray, List.set_cons_zero, List.set_cons_succ]
                                            refine wpAnyH_ready (rs := [6]) (by kernel_rfl) (by simp) ?_
                                            refine AllReadyH.cons (o := _) rfl (fun K hK => ?_) ?_
                                            ·
                                              go_simp
                                              refine (Mul_o a 1 ra r256_c1 _).mono ?_
                                              rintro e x6 ⟨rfl, k⟩
                                              go_wp2_with fail
                                              refine hK.out _ _ (hHeld.trans1 k) (fun hHeld => ?_)
                                              clear hK K
                                              try simp only [Act.put, List.setIfInBounds_toArray, List.set_cons_zero, List.set_cons_succ]
                                              refine take_val (v := (.bool false)) 8 (some 92) rfl (by kernel_rfl) (by kernel_rfl) (by kernel_rfl) (fun _ _ _ h => h) rfl rfl (fun w hSw => ?_) hHeld ?_
                                              · (go_simp; try with_reducible rfl)
                                              try simp only [Act.put, List.setIfInBounds_toArray, List.set_cons_zero, List.set_cons_succ]
                                              refine take_val (v := ?_) 9 (some 93) rfl (by kernel_rfl) (by kernel_rfl) (by kernel_rfl) (fun _ _ _ h => h) rfl rfl (fun w hSw => ?_) hHeld ?_
                                              rotate_left
                                              · (go_simp; try with_reducible rfl)
                                              try simp only [Act.put, List.setIfInBounds_toArray, List.set_cons_zero, List.set_cons_succ]
                                              refine take_val (v := ?_) 10 (some 94) rfl (by kernel_rfl) (by kernel_rfl) (by kernel_rfl) (fun _ _ _ h => h) rfl rfl (fun w hSw => ?_) hHeld ?_
                                              rotate_left
                                              · (go_simp; try with_reducible rfl)
                                              try simp only [Act.put, List.setIfInBounds_toArray, List.set_cons_zero, List.set_cons_succ]
                                              refine take_load 11 (some 95) (feC a) rfl (by kernel_rfl) (by kernel_rfl) (by kernel_rfl) (fun _ _ _ h => h) rfl rfl 23 _ rfl w.heap.size rfl 23 _ (fun w h => F0.chg h (by simp)) Try.underlying23 rfl (by first | exact feInfo | kernel_rfl) hHeld ?_
                                              try simp only [Act.put, List.setIfInBounds_toArray, List.set_cons_zero, List.set_cons_succ]
                                              refine take_load 12 (some 96) (feC a) rfl (by kernel_rfl) (by kernel_rfl) (by kernel_rfl) (fun _ _ _ h => h) rfl rfl 23 _ rfl w.heap.size rfl 23 _ (fun w h => F0.chg h (by simp)) Try.underlying23 rfl (by first | exact feInfo | kernel_rfl) hHeld ?_
                                              try simp only [Act.put, List.setIfInBounds_toArray, List.set_cons_zero, List.set_cons_succ]
                                              refine take_load 15 (some 99) (feC 0) rfl (by kernel_rfl) (by kernel_rfl) (by kernel_rfl) (fun _ _ _ h => h) rfl rfl 23 _ rfl (w.heap.size + 3) rfl 23 _ (fun w h => F7.chg h (by simp)) Try.underlying23 rfl (by first | exact feInfo | kernel_rfl) hHeld ?_
                                              try simp only [Act.put, List.setIfInBounds_toArray, List.set_cons_zero, List.set_cons_succ]
                                              refine wpAnyH_ready (rs := [13]) (by kernel_rfl) (by simp) ?_
                                              refine AllReadyH.cons (o := _) rfl (fun K hK => ?_) ?_
                                              ·
                                                go_simp
                                                refine (Neg_o a ra _).mono ?_
                                                rintro e x13 ⟨rfl, k⟩
                                                go_wp2_with fail
                                                refine hK.out _ _ (hHeld.trans1 k) (fun hHeld => ?_)
                                                clear hK K
                                                try simp only [Act.put, List.setIfInBounds_toArray, List.set_cons_zero, List.set_cons_succ]
                                                refine wpAnyH_ready (rs := [14]) (by kernel_rfl) (by simp) ?_
                                                refine AllReadyH.cons (o := _) rfl (fun K hK => ?_) ?_
                                                ·
                                                  go_simp
                                                  refine (Add_o a (ng a) ra (r256_mod _) _).mono ?_
                                                  rintro e x14 ⟨rfl, k⟩
                                                  go_wp2_with fail
                                                  refine hK.out _ _ (hHeld.trans1 k) (fun hHeld => ?_)
                                                  clear hK K
                                                  try simp only [Act.put, List.setIfInBounds_toArray, List.set_cons_zero, List.set_cons_succ]
                                                  refine take_val (v := (.bool false)) 16 (some 100) rfl (by kernel_rfl) (by kernel_rfl) (by kernel_rfl) (fun _ _ _ h => h) rfl rfl (fun w hSw => ?_) hHeld ?_
                                                  · (go_simp; try with_reducible rfl)
                                                  try simp only [Act.put, List.setIfInBounds_toArray, List.set_cons_zero, List.set_cons_succ]
                                                  refine take_val (v := ?_) 17 (some 101) rfl (by kernel_rfl) (by kernel_rfl) (by kernel_rfl) (fun _ _ _ h => h) rfl rfl (fun w hSw => ?_) hHeld ?_
                                                  rotate_left
                                                  · (go_simp; try with_reducible rfl)
                                                  try simp only [Act.put, List.setIfInBounds_toArray, List.set_cons_zero, List.set_cons_succ]
                                                  refine take_val (v := ?_) 18 (some 102) rfl (by kernel_rfl) (by kernel_rfl) (by kernel_rfl) (fun _ _ _ h => h) rfl rfl (fun w hSw => ?_) hHeld ?_
                                                  rotate_left
                                                  · (go_simp; try with_reducible rfl)
                                                  try simp only [Act.put, List.setIfInBounds_toArray, List.set_cons_zero, List.set_cons_succ]
                                                  refine take_load 19 (some 103) (feC a) rfl (by kernel_rfl) (by kernel_rfl) (by kernel_rfl) (fun _ _ _ h => h) rfl rfl 23 _ rfl w.heap.size rfl 23 _ (fun w h => F0.chg h (by simp)) Try.underlying23 rfl (by first | exact feInfo | kernel_rfl) hHeld ?_
                                                  try simp only [Act.put, List.setIfInBounds_toArray, List.set_cons_zero, List.set_cons_succ]
                                                  refine take_load 20 (some 104) (feC b) rfl (by kernel_rfl) (by kernel_rfl) (by kernel_rfl) (fun _ _ _ h => h) rfl rfl 23 _ rfl (w.heap.size + 1) rfl 23 _ (fun w h => F1.chg h (by simp)) Try.underlying23 rfl (by first | exact feInfo | kernel_rfl) hHeld ?_
                                                  try simp only [Act.put, List.setIfInBounds_toArray, List.set_cons_zero, List.set_cons_succ]
                                                  refine take_load 22 (some 106) (feC a) rfl (by kernel_rfl) (by kernel_rfl) (by kernel_rfl) (fun _ _ _ h => h) rfl rfl 23 _ rfl w.heap.size rfl 23 _ (fun w h => F0.chg h (by simp)) Try.underlying23 rfl (by first | exact feInfo | kernel_rfl) hHeld ?_
                                                  try simp only [Act.put, List.setIfInBounds_toArray, List.set_cons_zero, List.set_cons_succ]
                                                  refine take_load 23 (some 107) (feC b) rfl (by kernel_rfl) (by kernel_rfl) (by kernel_rfl) (fun _ _ _ h => h) rfl rfl 23 _ rfl (w.heap.size + 1) rfl 23 _ (fun w h => F1.chg h (by simp)) Try.underlying23 rfl (by first | exact feInfo | kernel_rfl) hHeld ?_
                                                  try simp only [Act.put, List.setIfInBounds_toArray, List.set_cons_zero, List.set_cons_succ]
                                                  refine wpAnyH_ready (rs := [21]) (by kernel_rfl) (by simp) ?_
                                                  refine AllReadyH.cons (o := _) rfl (fun K hK => ?_) ?_
                                                  ·
                                                    go_simp
                                                    refine (Sub_o a b ra rb _).mono ?_
                                                    rintro e x21 ⟨rfl, k⟩
                                                    go_wp2_with fail
                                                    refine hK.out _ _ (hHeld.trans1 k) (fun hHeld => ?_)
                                                    clear hK K
                                                    try simp only [Act.put, List.setIfInBounds_toArray, List.set_cons_zero, List.set_cons_succ]
                                                    refine wpAnyH_ready (rs := [24]) (by kernel_rfl) (by simp) ?_
                                                    refine AllReadyH.cons (o := _) rfl (fun K hK => ?_) ?_
                                                    ·
                                                      go_simp
                                                      refine (Neg_o b rb _).mono ?_
                                                      rintro e x24 ⟨rfl, k⟩
                                                      go_wp2_with fail
                                                      refine hK.out _ _ (hHeld.trans1 k) (fun hHeld => ?_)
                                                      clear hK K
                                                      try simp only [Act.put, List.setIfInBounds_toArray, List.set_cons_zero, List.set_cons_succ]
                                                      refine wpAnyH_ready (rs := [25]) (by kernel_rfl) (by simp) ?_
                                                      refine AllReadyH.cons (o := _) rfl (fun K hK => ?_) ?_
                                                      ·
                                                        go_simp
                                                        refine (Add_o a (ng b) ra (r256_mod _) _).mono ?_
                                                        rintro e x25 ⟨rfl, k⟩
                                                        go_wp2_with fail
                                                        refine hK.out _ _ (hHeld.trans1 k) (fun hHeld => ?_)
                                                        clear hK K
                                                        try simp only [Act.put, List.setIfInBounds_toArray, List.set_cons_zero, List.set_cons_succ]
                                                        refine take_val (v := (.bool false)) 26 (some 110) rfl (by kernel_rfl) (by kernel_rfl) (by kernel_rfl) (fun _ _ _ h => h) rfl rfl (fun w hSw => ?_) hHeld ?_
                                                        · (go_simp; try with_reducible rfl)
                                                        try simp only [Act.put, List.setIfInBounds_toArray, List.set_cons_zero, List.set_cons_succ]
                                                        refine take_val (v := ?_) 27 (some 111) rfl (by kernel_rfl) (by kernel_rfl) (by kernel_rfl) (fun _ _ _ h => h) rfl rfl (fun w hSw => ?_) hHeld ?_
                                                        rotate_left
                                                        · (go_simp; try with_reducible rfl)
                                                        try simp only [Act.put, List.setIfInBounds_toArray, List.set_cons_zero, List.set_cons_succ]
                                                        refine take_val (v := ?_) 28 (some 112) rfl (by kernel_rfl) (by kernel_rfl) (by kernel_rfl) (fun _ _ _ h => h) rfl rfl (fun w hSw => ?_) hHeld ?_
                                                        rotate_left
                                                        · (go_simp; try with_reducible rfl)
                                                        try simp only [Act.put, List.setIfInBounds_toArray, List.set_cons_zero, List.set_cons_succ]
                                                        refine take_load 29 (some 113) (feC a) rfl (by kernel_rfl) (by kernel_rfl) (by kernel_rfl) (fun _ _ _ h => h) rfl rfl 23 _ rfl w.heap.size rfl 23 _ (fun w h => F0.chg h (by simp)) Try.underlying23 rfl (by first | exact feInfo | kernel_rfl) hHeld ?_
                                                        try simp only [Act.put, List.setIfInBounds_toArray, List.set_cons_zero, List.set_cons_succ]
                                                        refine take_load 31 (some 115) (feC (ad a 0)) rfl (by kernel_rfl) (by kernel_rfl) (by kernel_rfl) (fun _ _ _ h => h) rfl rfl 23 _ rfl gl rfl 23 _ (fun w h => F9.chg h (by simp)) Try.underlying23 rfl (by first | exact feInfo | kernel_rfl) hHeld ?_
                                                        try simp only [Act.put, List.setIfInBounds_toArray, List.set_cons_zero, List.set_cons_succ]
                                                        refine take_load 32 (some 116) (feC a) rfl (by kernel_rfl) (by kernel_rfl) (by kernel_rfl) (fun _ _ _ h => h) rfl rfl 23 _ rfl w.heap.size rfl 23 _ (fun w h => F0.chg h (by simp)) Try.underlying23 rfl (by first | exact feInfo | kernel_rfl) hHeld ?_
                                                        try simp only [Act.put, List.setIfInBounds_toArray, List.set_cons_zero, List.set_cons_succ]
                                                        refine take_val (v := (.bool t)) 33 (some 117) rfl (by kernel_rfl) (by kernel_rfl) (by kernel_rfl) (fun _ _ _ h => h) rfl rfl (fun w hSw => ?_) hHeld ?_
                                                        · (go_simp; try with_reducible rfl)
                                                        try simp only [Act.put, List.setIfInBounds_toArray, List.set_cons_zero, List.set_cons_succ]
                                                        refine wpAnyH_ready (rs := [30]) (by kernel_rfl) (by simp) ?_
                                                        refine AllReadyH.cons (o := _) rfl (fun K hK => ?_) ?_
                                                        ·
                                                          go_simp
                                                          refine (Canonical_is a ra t HT _).mono ?_
                                                          rintro e x30 ⟨rfl, k⟩
                                                          go_wp2_with fail
                                                          refine hK.out _ _ (hHeld.trans1 k) (fun hHeld => ?_)
                                                          clear hK K
                                                          try simp only [Act.put, List.setIfInBounds_toArray, List.set_cons_zero, List.set_cons_succ]
                                                          refine take_val (v := (.bool false)) 34 (some 118) rfl (by kernel_rfl) (by kernel_rfl) (by kernel_rfl) (fun _ _ _ h => h) rfl rfl (fun w hSw => ?_) hHeld ?_
                                                          · (go_simp; try with_reducible rfl)
                                                          try simp only [Act.put, List.setIfInBounds_toArray, List.set_cons_zero, List.set_cons_succ]
                                                          refine take_val (v := ?_) 35 (some 119) rfl (by kernel_rfl) (by kernel_rfl) (by kernel_rfl) (fun _ _ _ h => h) rfl rfl (fun w hSw => ?_) hHeld ?_
                                                          rotate_left
                                                          · (go_simp; try with_reducible rfl)
                                                          try simp only [Act.put, List.setIfInBounds_toArray, List.set_cons_zero, List.set_cons_succ]
                                                          refine take_val (v := ?_) 36 (some 120) rfl (by kernel_rfl) (by kernel_rfl) (by kernel_rfl) (fun _ _ _ h => h) rfl rfl (fun w hSw => ?_) hHeld ?_
                                                          rotate_left
                                                          · (go_simp; try with_reducible rfl)
                                                          try simp only [Act.put, List.setIfInBounds_toArray, List.set_cons_zero, List.set_cons_succ]
                                                          refine take_load 37 (some 121) (feC a) rfl (by kernel_rfl) (by kernel_rfl) (by kernel_rfl) (fun _ _ _ h => h) rfl rfl 23 _ rfl w.heap.size rfl 23 _ (fun w h => F0.chg h (by simp)) Try.underlying23 rfl (by first | exact feInfo | kernel_rfl) hHeld ?_
                                                          try simp only [Act.put, List.setIfInBounds_toArray, List.set_cons_zero, List.set_cons_succ]
                                                          refine take_load 38 (some 122) (feC (ad a 0)) rfl (by kernel_rfl) (by kernel_rfl) (by kernel_rfl) (fun _ _ _ h => h) rfl rfl 23 _ rfl gl rfl 23 _ (fun w h => F9.chg h (by simp)) Try.underlying23 rfl (by first | exact feInfo | kernel_rfl) hHeld ?_
                                                          try simp only [Act.put, List.setIfInBounds_toArray, List.set_cons_zero, List.set_cons_succ]
                                                          refine wpAnyH_ready (rs := [39]) (by kernel_rfl) (by simp) ?_
                                                          refine AllReadyH.cons (o := _) rfl (fun K hK => ?_) ?_
                                                          ·
                                                            go_simp
                                                            refine (Compare_is a (ad a 0) ra (r256_mod _) 0 HK _).mono ?_
                                                            rintro e x39 ⟨rfl, k⟩
                                                            go_wp2_with fail
                                                            refine hK.out _ _ (hHeld.trans1 k) (fun hHeld => ?_)
                                                            clear hK K
                                                            try simp only [Act.put, List.setIfInBounds_toArray, List.set_cons_zero, List.set_cons_succ]
                                                            refine take_val (v := (.bool false)) 40 (some 124) rfl (by kernel_rfl) (by kernel_rfl) (by kernel_rfl) (fun _ _ _ h => h) rfl rfl (fun w hSw => ?_) hHeld ?_
                                                            · (go_simp; try with_reducible rfl)
                                                            try simp only [Act.put, List.setIfInBounds_toArray, List.set_cons_zero, List.set_cons_succ]
                                                            refine take_val (v := ?_) 41 (some 125) rfl (by kernel_rfl) (by kernel_rfl) (by kernel_rfl) (fun _ _ _ h => h) rfl rfl (fun w hSw => ?_) hHeld ?_
                                                            rotate_left
                                                            · (go_simp; try with_reducible rfl)
                                                            try simp only [Act.put, List.setIfInBounds_toArray, List.set_cons_zero, List.set_cons_succ]
                                                            refine wpAnyH_done (by kernel_rfl) ?_ _
                                                            obtain ⟨v5, hw⟩ : ∃ x, x = x39 := ⟨_, rfl⟩
                                                            rw [← hw] at hHeld ⊢
                                                            replace F0 := F0.chg hHeld (by simp)
                                                            replace F1 := F1.chg hHeld (by simp)
                                                            replace F2 := F2.chg hHeld (by simp)
                                                            replace F7 := F7.chg hHeld (by simp)
                                                            replace F8 := F8.chg hHeld (by simp)
                                                            replace F9 := F9.chg hHeld (by simp)
                                                            replace CC := CC.trans1 hHeld
                                                            clear hw hHeld k
                                                            go_wp2_with (refine gl_load (by rfl) 23 _ rfl w.heap.size rfl 23 (feC a) _ F0 Try.underlying23 rfl feInfo ?_)
                                                            refine (Invert_o a ra HZ _).mono ?_
                                                            rintro e v6 ⟨rfl, k⟩
                                                            replace F0 := F0.chg k (by simp)
                                                            replace F1 := F1.chg k (by simp)
                                                            replace F2 := F2.chg k (by simp)
                                                            replace F7 := F7.chg k (by simp)
                                                            replace F8 := F8.chg k (by simp)
                                                            replace F9 := F9.chg k (by simp)
                                                            replace CC := CC.trans1 k
                                                            clear k
                                                            have H1 : Blk (v6.alloc (.cells z32 23)) v6.heap.size z32 23 := Blk.new v6 z32 23
                                                            have lt8 := F8.lt
                                                            have lt9 := F9.lt
                                                            go_wp2_with (refine wpList_store_row rfl 23 _ _ rfl v6.heap.size _ rfl rfl 23 _ H1 feInfo rfl (feC_one _) ?_)
                                                            have F10 : Blk ((v6.alloc (.cells z32 23)).setRow v6.heap.size (feC (iv a))) v6.heap.size (feC (iv a)) 23 := H1.setRow _
                                                            replace F0 := (F0.alloc (.cells z32 23)).setRowOther (d := v6.heap.size) (by omega) (feC (iv a))
                                                            replace F1 := (F1.alloc (.cells z32 23)).setRowOther (d := v6.heap.size) (by omega) (feC (iv a))
                                                            replace F2 := (F2.alloc (.cells z32 23)).setRowOther (d := v6.heap.size) (by omega) (feC (iv a))
                                                            replace F7 := (F7.alloc (.cells z32 23)).setRowOther (d := v6.heap.size) (by omega) (feC (iv a))
                                                            replace F8 := (F8.alloc (.cells z32 23)).setRowOther (d := v6.heap.size) (by omega) (feC (iv a))
                                                            replace F9 := (F9.alloc (.cells z32 23)).setRowOther (d := v6.heap.size) (by omega) (feC (iv a))
                                                            replace CC := (CC.alloc (.cells z32 23)).setRowNew CC.size (feC (iv a))
                                                            clear H1
                                                            generalize hvn : (v6.alloc (.cells z32 23)).setRow v6.heap.size (feC (iv a)) = v7 at F0 F1 F2 F7 F8 F9 F10 CC
                                                            change Code.wp _ _ _ _ ((v6.alloc (.cells z32 23)).setRow v6.heap.size (feC (iv a)))
                                                            rw [hvn]
                                                            clear hvn
                                                            generalize v6.heap.size = gi at *
                                                            refine wp_region_held_drew (S := fun w' => Chg v7 w' []) (by kernel_rfl) ((Chg.refl v7 []).drew) (fun hHeld => ?_)
                                                            refine take_val (v := ?_) 0 (some 131) rfl (by kernel_rfl) (by kernel_rfl) (by kernel_rfl) (fun _ _ _ h => h) rfl rfl (fun w hSw => ?_) hHeld ?_
                                                            rotate_left
                                                            · (go_simp; try with_reducible rfl)
                                                            try simp only [Act.put, List.setIfInBounds_toArray, List.set_cons_zero, List.set_cons_succ]
                                                            refine take_val (v := (.bool false)) 1 (some 132) rfl (by kernel_rfl) (by kernel_rfl) (by kernel_rfl) (fun _ _ _ h => h) rfl rfl (fun w hSw => ?_) hHeld ?_
                                                            · (go_simp; try with_reducible rfl)
                                                            try simp only [Act.put, List.setIfInBounds_toArray, List.set_cons_zero, List.set_cons_succ]
                                                            refine take_load 2 (some 133) (feC (ad a 0)) rfl (by kernel_rfl) (by kernel_rfl) (by kernel_rfl) (fun _ _ _ h => h) rfl rfl 23 _ rfl gl rfl 23 _ (fun w h => F9.chg h (by simp)) Try.underlying23 rfl (by first | exact feInfo | kernel_rfl) hHeld ?_
                                                            try simp only [Act.put, List.setIfInBounds_toArray, List.set_cons_zero, List.set_cons_succ]
                                                            refine take_load 3 (some 134) (feC 0) rfl (by kernel_rfl) (by kernel_rfl) (by kernel_rfl) (fun _ _ _ h => h) rfl rfl 23 _ rfl (w.heap.size + 3) rfl 23 _ (fun w h => F7.chg h (by simp)) Try.underlying23 rfl (by first | exact feInfo | kernel_rfl) hHeld ?_
                                                            try simp only [Act.put, List.setIfInBounds_toArray, List.set_cons_zero, List.set_cons_succ]
                                                            refine take_val (v := (.bool false)) 4 (some 135) rfl (by kernel_rfl) (by kernel_rfl) (by kernel_rfl) (fun _ _ _ h => h) rfl rfl (fun w hSw => ?_) hHeld ?_
                                                            · (go_simp; try with_reducible rfl)
                                                            try simp only [Act.put, List.setIfInBounds_toArray, List.set_cons_zero, List.set_cons_succ]
                                                            refine take_val (v := (.bool false)) 5 (some 136) rfl (by kernel_rfl) (by kernel_rfl) (by kernel_rfl) (fun _ _ _ h => h) rfl rfl (fun w hSw => ?_) hHeld ?_
                                                            · (go_simp; try with_reducible rfl)
                                                            try simp only [Act.put, List.setIfInBounds_toArray, List.set_cons_zero, List.set_cons_succ]
                                                            refine take_val (v := ?_) 6 (some 137) rfl (by kernel_rfl) (by kernel_rfl) (by kernel_rfl) (fun _ _ _ h => h) rfl rfl (fun w hSw => ?_) hHeld ?_
                                                            rotate_left
                                                            · (go_simp; try with_reducible rfl)
                                                            try simp only [Act.put, List.setIfInBounds_toArray, List.set_cons_zero, List.set_cons_succ]
                                                            refine take_load 7 (some 138) (feC a) rfl (by kernel_rfl) (by kernel_rfl) (by kernel_rfl) (fun _ _ _ h => h) rfl rfl 23 _ rfl w.heap.size rfl 23 _ (fun w h => F0.chg h (by simp)) Try.underlying23 rfl (by first | exact feInfo | kernel_rfl) hHeld ?_
                                                            try simp only [Act.put, List.setIfInBounds_toArray, List.set_cons_zero, List.set_cons_succ]
                                                            refine take_load 9 (some 140) (feC (ad a 0)) rfl (by kernel_rfl) (by kernel_rfl) (by kernel_rfl) (fun _ _ _ h => h) rfl rfl 23 _ rfl gl rfl 23 _ (fun w h => F9.chg h (by simp)) Try.underlying23 rfl (by first | exact feInfo | kernel_rfl) hHeld ?_
                                                            try simp only [Act.put, List.setIfInBounds_toArray, List.set_cons_zero, List.set_cons_succ]
                                                            refine take_load 10 (some 141) (feC 0) rfl (by kernel_rfl) (by kernel_rfl) (by kernel_rfl) (fun _ _ _ h => h) rfl rfl 23 _ rfl (w.heap.size + 3) rfl 23 _ (fun w h => F7.chg h (by simp)) Try.underlying23 rfl (by first | exact feInfo | kernel_rfl) hHeld ?_
                                                            try simp only [Act.put, List.setIfInBounds_toArray, List.set_cons_zero, List.set_cons_succ]
                                                            refine take_val (v := (.bool false)) 11 (some 142) rfl (by kernel_rfl) (by kernel_rfl) (by kernel_rfl) (fun _ _ _ h => h) rfl rfl (fun w hSw => ?_) hHeld ?_
                                                            · (go_simp; try with_reducible rfl)
                                                            try simp only [Act.put, List.setIfInBounds_toArray, List.set_cons_zero, List.set_cons_succ]
                                                            refine wpAnyH_ready (rs := [8]) (by kernel_rfl) (by simp) ?_
                                                            refine AllReadyH.cons (o := _) rfl (fun K hK => ?_) ?_
                                                            ·
                                                              go_simp
                                                              refine (IsZero_is a ra false HZ _).mono ?_
                                                              rintro e x8 ⟨rfl, k⟩
                                                              go_wp2_with fail
                                                              refine hK.out _ _ (hHeld.trans1 k) (fun hHeld => ?_)
                                                              clear hK K
                                                              try simp only [Act.put, List.setIfInBounds_toArray, List.set_cons_zero, List.set_cons_succ]
                                                              refine take_val (v := (.bool false)) 12 (some 143) rfl (by kernel_rfl) (by kernel_rfl) (by kernel_rfl) (fun _ _ _ h => h) rfl rfl (fun w hSw => ?_) hHeld ?_
                                                              · (go_simp; try with_reducible rfl)
                                                              try simp only [Act.put, List.setIfInBounds_toArray, List.set_cons_zero, List.set_cons_succ]
                                                              refine take_val (v := ?_) 13 (some 144) rfl (by kernel_rfl) (by kernel_rfl) (by kernel_rfl) (fun _ _ _ h => h) rfl rfl (fun w hSw => ?_) hHeld ?_
                                                              rotate_left
                                                              · (go_simp; try with_reducible rfl)
                                                              try simp only [Act.put, List.setIfInBounds_toArray, List.set_cons_zero, List.set_cons_succ]
                                                              refine take_val (v := ?_) 14 (some 145) rfl (by kernel_rfl) (by kernel_rfl) (by kernel_rfl) (fun _ _ _ h => h) rfl rfl (fun w hSw => ?_) hHeld ?_
                                                              rotate_left
                                                              · (go_simp; try with_reducible rfl)
                                                              try simp only [Act.put, List.setIfInBounds_toArray, List.set_cons_zero, List.set_cons_succ]
                                                              refine take_val (v := ?_) 15 (some 146) rfl (by kernel_rfl) (by kernel_rfl) (by kernel_rfl) (fun _ _ _ h => h) rfl rfl (fun w hSw => ?_) hHeld ?_
                                                              rotate_left
                                                              · (go_simp; try with_reducible rfl)
                                                              try simp only [Act.put, List.setIfInBounds_toArray, List.set_cons_zero, List.set_cons_succ]
                                                              refine take_val (v := (.bool false)) 16 (some 147) rfl (by kernel_rfl) (by kernel_rfl) (by kernel_rfl) (fun _ _ _ h => h) rfl rfl (fun w hSw => ?_) hHeld ?_
                                                              · (go_simp; try with_reducible rfl)
                                                              try simp only [Act.put, List.setIfInBounds_toArray, List.set_cons_zero, List.set_cons_succ]
                                                              refine take_val (v := ?_) 17 (some 148) rfl (by kernel_rfl) (by kernel_rfl) (by kernel_rfl) (fun _ _ _ h => h) rfl rfl (fun w hSw => ?_) hHeld ?_
                                                              rotate_left
                                                              · (go_simp; try with_reducible rfl)
                                                              try simp only [Act.put, List.setIfInBounds_toArray, List.set_cons_zero, List.set_cons_succ]
                                                              refine take_no 18 (some 149) rfl (by kernel_rfl) (by kernel_rfl) (by kernel_rfl) (fun _ _ _ h => h) rfl rfl hHeld ?_
                                                              try simp only [Act.put, List.setIfInBounds_toArray, List.set_cons_zero, List.set_cons_succ]
                                                              refine take_no 19 (some 150) rfl (by kernel_rfl) (by kernel_rfl) (by kernel_rfl) (fun _ _ _ h => h) rfl rfl hHeld ?_
                                                              try simp only [Act.put, List.setIfInBounds_toArray, List.set_cons_zero, List.set_cons_succ]
                                                              refine take_val (v := ?_) 20 (some 151) rfl (by kernel_rfl) (by kernel_rfl) (by kernel_rfl) (fun _ _ _ h => h) rfl rfl (fun w hSw => ?_) hHeld ?_
                                                              rotate_left
                                                              · (go_simp; try with_reducible rfl)
                                                              try simp only [Act.put, List.setIfInBounds_toArray, List.set_cons_zero, List.set_cons_succ]
                                                              refine take_val (v := ?_) 21 (some 152) rfl (by kernel_rfl) (by kernel_rfl) (by kernel_rfl) (fun _ _ _ h => h) rfl rfl (fun w hSw => ?_) hHeld ?_
                                                              rotate_left
                                                              · (go_simp; try with_reducible rfl)
                                                              try simp only [Act.put, List.setIfInBounds_toArray, List.set_cons_zero, List.set_cons_succ]
                                                              refine wpAnyH_done (by kernel_rfl) ?_ _
                                                              obtain ⟨v8, hw⟩ : ∃ x, x = x8 := ⟨_, rfl⟩
                                                              rw [← hw] at hHeld ⊢
                                                              replace F0 := F0.chg hHeld (by simp)
                                                              replace F1 := F1.chg hHeld (by simp)
                                                              replace F2 := F2.chg hHeld (by simp)
                                                              replace F7 := F7.chg hHeld (by simp)
                                                              replace F8 := F8.chg hHeld (by simp)
                                                              replace F9 := F9.chg hHeld (by simp)
                                                              replace F10 := F10.chg hHeld (by simp)
                                                              replace CC := CC.trans1 hHeld
                                                              clear hw hHeld k
                                                              go_wp2_with fail
                                                              refine wp_region_held_drew (S := fun w' => Chg v8 w' []) (by kernel_rfl) ((Chg.refl v8 []).drew) (fun hHeld => ?_)
                                                              refine wpAnyH_ready (rs := [0]) (by kernel_rfl) (by simp) ?_
                                                              refine AllReadyH.cons (o := _) rfl (fun K hK => ?_) ?_
                                                              ·
                                                                go_simp
                                                                refine (works_true _).mono ?_
                                                                rintro e x0 ⟨rfl, k⟩
                                                                go_wp2_with fail
                                                                refine hK.out _ _ (hHeld.trans1 k) (fun hHeld => ?_)
                                                                clear hK K
                                                                try simp only [Act.put, List.setIfInBounds_toArray, List.set_cons_zero, List.set_cons_succ]
                                                                refine take_val (v := ?_) 1 (some 154) rfl (by kernel_rfl) (by kernel_rfl) (by kernel_rfl) (fun _ _ _ h => h) rfl rfl (fun w hSw => ?_) hHeld ?_
                                                                rotate_left
                                                                · (go_simp; try with_reducible rfl)
                                                                try simp only [Act.put, List.setIfInBounds_toArray, List.set_cons_zero, List.set_cons_succ]
                                                                refine take_val (v := ?_) 2 (some 155) rfl (by kernel_rfl) (by kernel_rfl) (by kernel_rfl) (fun _ _ _ h => h) rfl rfl (fun w hSw => ?_) hHeld ?_
                                                                rotate_left
                                                                · (go_simp; try with_reducible rfl)
                                                                try simp only [Act.put, List.setIfInBounds_toArray, List.set_cons_zero, List.set_cons_succ]
                                                                refine take_val (v := (.bool false)) 3 (some 156) rfl (by kernel_rfl) (by kernel_rfl) (by kernel_rfl) (fun _ _ _ h => h) rfl rfl (fun w hSw => ?_) hHeld ?_
                                                                · (go_simp; try with_reducible rfl)
                                                                try simp only [Act.put, List.setIfInBounds_toArray, List.set_cons_zero, List.set_cons_succ]
                                                                refine take_val (v := ?_) 4 (some 157) rfl (by kernel_rfl) (by kernel_rfl) (by kernel_rfl) (fun _ _ _ h => h) rfl rfl (fun w hSw => ?_) hHeld ?_
                                                                rotate_left
                                                                · (go_simp; try with_reducible rfl)
                                                                try simp only [Act.put, List.setIfInBounds_toArray, List.set_cons_zero, List.set_cons_succ]
                                                                refine take_load 5 (some 158) (feC a) rfl (by kernel_rfl) (by kernel_rfl) (by kernel_rfl) (fun _ _ _ h => h) rfl rfl 23 _ rfl w.heap.size rfl 23 _ (fun w h => F0.chg h (by simp)) Try.underlying23 rfl (by first | exact feInfo | kernel_rfl) hHeld ?_
                                                                try simp only [Act.put, List.setIfInBounds_toArray, List.set_cons_zero, List.set_cons_succ]
                                                                refine take_load 6 (some 159) (feC (iv a)) rfl (by kernel_rfl) (by kernel_rfl) (by kernel_rfl) (fun _ _ _ h => h) rfl rfl 23 _ rfl gi rfl 23 _ (fun w h => F10.chg h (by simp)) Try.underlying23 rfl (by first | exact feInfo | kernel_rfl) hHeld ?_
                                                                try simp only [Act.put, List.setIfInBounds_toArray, List.set_cons_zero, List.set_cons_succ]
                                                                refine take_load 8 (some 161) (feC 1) rfl (by kernel_rfl) (by kernel_rfl) (by kernel_rfl) (fun _ _ _ h => h) rfl rfl 23 _ rfl (w.heap.size + 4) rfl 23 _ (fun w h => F8.chg h (by simp)) Try.underlying23 rfl (by first | exact feInfo | kernel_rfl) hHeld ?_
                                                                try simp only [Act.put, List.setIfInBounds_toArray, List.set_cons_zero, List.set_cons_succ]
                                                                refine wpAnyH_ready (rs := [7]) (by kernel_rfl) (by simp) ?_
                                                                refine AllReadyH.cons (o := _) rfl (fun K hK => ?_) ?_
                                                                ·
                                                                  go_simp
                                                                  refine (Mul_o a (iv a) ra (r256_mod _) _).mono ?_
                                                                  rintro e x7 ⟨rfl, k⟩
                                                                  go_wp2_with fail
                                                                  refine hK.out _ _ (hHeld.trans1 k) (fun hHeld => ?_)
                                                                  clear hK K
                                                                  try simp only [Act.put, List.setIfInBounds_toArray, List.set_cons_zero, List.set_cons_succ]
                                                                  refine take_val (v := (.bool true)) 9 (some 162) rfl (by kernel_rfl) (by kernel_rfl) (by kernel_rfl) (fun _ _ _ h => h) rfl rfl (fun w hSw => ?_) hHeld ?_
                                                                  · (go_simp; try with_reducible rfl)
                                                                  try simp only [Act.put, List.setIfInBounds_toArray, List.set_cons_zero, List.set_cons_succ]
                                                                  refine take_val (v := ?_) 10 (some 163) rfl (by kernel_rfl) (by kernel_rfl) (by kernel_rfl) (fun _ _ _ h => h) rfl rfl (fun w hSw => ?_) hHeld ?_
                                                                  rotate_left
                                                                  · (go_simp; try with_reducible rfl)
                                                                  try simp only [Act.put, List.setIfInBounds_toArray, List.set_cons_zero, List.set_cons_succ]
                                                                  refine take_val (v := ?_) 11 (some 164) rfl (by kernel_rfl) (by kernel_rfl) (by kernel_rfl) (fun _ _ _ h => h) rfl rfl (fun w hSw => ?_) hHeld ?_
                                                                  rotate_left
                                                                  · (go_simp; try with_reducible rfl)
                                                                  try simp only [Act.put, List.setIfInBounds_toArray, List.set_cons_zero, List.set_cons_succ]
                                                                  refine take_val (v := ?_) 12 (some 6) rfl (by kernel_rfl) (by kernel_rfl) (by kernel_rfl) (fun _ _ _ h => h) rfl rfl (fun w hSw => ?_) hHeld ?_
                                                                  rotate_left
                                                                  · (go_simp; try with_reducible rfl)
                                                                  try simp only [Act.put, List.setIfInBounds_toArray, List.set_cons_zero, List.set_cons_succ]
                                                                  refine wpAnyH_done (by kernel_rfl) ?_ _
                                                                  obtain ⟨v9, hw⟩ : ∃ x, x = x7 := ⟨_, rfl⟩
                                                                  rw [← hw] at hHeld ⊢
                                                                  replace F0 := F0.chg hHeld (by simp)
                                                                  replace F1 := F1.chg hHeld (by simp)
                                                                  replace F2 := F2.chg hHeld (by simp)
                                                                  replace F7 := F7.chg hHeld (by simp)
                                                                  replace F8 := F8.chg hHeld (by simp)
                                                                  replace F9 := F9.chg hHeld (by simp)
                                                                  replace F10 := F10.chg hHeld (by simp)
                                                                  replace CC := CC.trans1 hHeld
                                                                  clear hw hHeld k
                                                                  go_wp2_with fail
                                                                  go_ret
                                                                  exact ⟨rfl, CC⟩
                                                                exact AllReadyH.nil
                                                              exact AllReadyH.nil
                                                            exact AllReadyH.nil
                                                          exact AllReadyH.nil
                                                        exact AllReadyH.nil
                                                      exact AllReadyH.nil
                                                    exact AllReadyH.nil
                                                  exact AllReadyH.nil
                                                exact AllReadyH.nil
                                              exact AllReadyH.nil
                                            exact AllReadyH.nil
                                          exact AllReadyH.nil
                                        exact AllReadyH.nil
                                      exact AllReadyH.nil
                                    exact AllReadyH.nil
                                  exact AllReadyH.nil
                                exact AllReadyH.nil
                              exact AllReadyH.nil
                            exact AllReadyH.nil
                          exact AllReadyH.nil
                        exact AllReadyH.nil
                      exact AllReadyH.nil
                    exact AllReadyH.nil
                  exact AllReadyH.nil
                exact AllReadyH.nil
              exact AllReadyH.nil
            exact AllReadyH.nil
          exact AllReadyH.nil
        exact AllReadyH.nil
      exact AllReadyH.nil
    exact AllReadyH.nil
  exact AllReadyH.nil
end Go.Proofs.Ytcdgkhejbdlapab
