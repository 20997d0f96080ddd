/- FieldFermat: the walk, where a's sign is 0. -/
import Derived.Test.YtialljmkkichiabFermatW
set_option linter.unusedVariables false
set_option linter.unusedSimpArgs false
set_option linter.unnecessarySimpa false
namespace Go.Proofs.Ytialljmkkichiab
open Go.RowKit N

set_option maxHeartbeats 16000000 in
set_option maxRecDepth 100000 in
theorem fermat_zp (a b : Int) (ra : R256 a) (rb : R256 b) (n1 : Hid (0 = leg a)) (n2 : Hid (1 = leg b)) (n3 : Hid (0 = leg (ml2 a b))) (n4 : Hid (eqf (fm a % P) (a % P) = true)) (n5 : eqf (eu a) 0 = true) (w : World) :
    Calls Try.prog 4 #[fe a, fe b] w fun e w' => e = .returned (.bool true) ∧ Chg w w' [] := by
  have hge := feGuard
  have F0 : Blk ((w.alloc (.cells (feC a) 23)).alloc (.cells (feC b) 23)) w.heap.size (feC a) 23 := (Blk.new w (feC a) 23).alloc _
  have F1 : Blk ((w.alloc (.cells (feC a) 23)).alloc (.cells (feC b) 23)) (w.heap.size + 1) (feC b) 23 := by have h := Blk.new (w.alloc (.cells (feC a) 23)) (feC b) 23; simpa using h
  have CC : Chg w ((w.alloc (.cells (feC a) 23)).alloc (.cells (feC b) 23)) [] := ((Chg.refl w []).alloc (.cells (feC a) 23)).alloc (.cells (feC b) 23)
  go_enter Try.func4, Try.ntmps4
  go_wp2_with fail
  refine (alive_true _).mono ?_
  rintro e y1 ⟨rfl, k⟩
  replace F0 := F0.chg k (by simp)
  replace F1 := F1.chg k (by simp)
  replace CC := CC.trans1 k
  clear k
  go_wp2_with fail
  refine region_cut (fun a' w' => ∃ g5 gp gh : Nat, a' = ⟨#[fe a, fe b, .pointer (some ⟨w.heap.size, 0, none⟩), .pointer (some ⟨(w.heap.size + 1), 0, none⟩), .bool false, .pointer (some ⟨g5, 0, none⟩), undef, .bool true, .bool false, .agg (feC a), .slice (some ⟨gp, 0, none⟩) 32 32, .slice (some ⟨gh, 0, none⟩) 32 32, fe (eu a), undef, undef, undef, undef, undef, undef, undef, undef, undef, undef, undef, undef, undef, undef, undef, undef, undef, undef, undef, undef, undef, undef, undef, undef, undef, undef, undef, undef, undef, undef, undef, undef], []⟩ ∧ y1.heap.size ≤ g5 ∧ Blk w' g5 (feC (eu a)) 23 ∧ Chg y1 w' []) ?_ ?_
  ·
    refine wp_region_held_drew (S := fun w' => Chg y1 w' []) (by kernel_rfl) ((Chg.refl y1 []).drew) (fun hHeld => ?_)
    refine take_load 0 (some 9) (feC a) rfl (by kernel_rfl) (by kernel_rfl) (by kernel_rfl) (fun _ _ _ h => h) rfl rfl 23 _ rfl w.heap.size rfl 23 _ (fun w h => F0.chg h (by simp)) Try.underlying23 rfl feInfo hHeld ?_
    try simp only [Act.put, List.setIfInBounds_toArray, List.set_cons_zero, List.set_cons_succ]
    refine wpAnyH_ready (rs := [1, 4]) (by kernel_rfl) (by simp) ?_
    refine AllReadyH.cons (o := _) rfl (fun K hK => ?_) ?_
    ·
      go_simp
      refine (prime_p 1 (by decide) (by decide) _).mono ?_
      rintro e x1 ⟨gp, rfl, hp, k⟩
      go_wp2_with fail
      refine hK.out _ _ (hHeld.trans1 k) (fun hHeld => ?_)
      clear k
      clear hK K
      try simp only [Act.put, List.setIfInBounds_toArray, List.set_cons_zero, List.set_cons_succ]
      refine wpAnyH_ready (rs := [2, 4]) (by kernel_rfl) (by simp) ?_
      refine AllReadyH.cons (o := _) rfl (fun K hK => ?_) ?_
      ·
        go_simp
        refine (halved_p gp _ hp).mono ?_
        rintro e x2 ⟨gh, rfl, hh, k⟩
        go_wp2_with fail
        refine hK.out _ _ (hHeld.trans1 k) (fun hHeld => ?_)
        clear k
        clear hK K
        try simp only [Act.put, List.setIfInBounds_toArray, List.set_cons_zero, List.set_cons_succ]
        refine wpAnyH_ready (rs := [3, 4]) (by kernel_rfl) (by simp) ?_
        refine AllReadyH.cons (o := _) rfl (fun K hK => ?_) ?_
        ·
          go_simp
          refine (power_half a ra gh _ hh).mono ?_
          rintro e x3 ⟨rfl, k⟩
          go_wp2_with fail
          refine hK.out _ _ (hHeld.trans1 k) (fun hHeld => ?_)
          clear k
          clear hK K
          try simp only [Act.put, List.setIfInBounds_toArray, List.set_cons_zero, List.set_cons_succ]
          refine wpAnyH_ready (rs := [4]) (by kernel_rfl) (by simp) ?_
          refine AllReadyH.cons (o := _) rfl (fun K hK => ?_) ?_
          ·
            go_simp
            have b7 : y1.heap.size ≤ x3.heap.size := by have h := hHeld.size; simpa using h
            have c7 : Blk (x3.alloc (.cells z32 23)) (x3.heap.size) z32 23 := by have h := Blk.new x3 z32 23; simpa using h
            refine hK.out _ _ (hHeld.alloc _) (fun hHeld => ?_)
            replace hh := hh.alloc (.cells z32 23)
            clear hK K
            try simp only [Act.put, List.setIfInBounds_toArray, List.set_cons_zero, List.set_cons_succ]
            refine wpAnyH_ready (rs := [5]) (by kernel_rfl) (by simp) ?_
            refine AllReadyH.cons (o := _) rfl (fun K hK => ?_) ?_
            ·
              rw [if_pos (by rfl)]
              refine wp_store_row 23 _ _ rfl (x3.heap.size) _ rfl rfl 23 _ c7 feInfo rfl (feC_one _) ?_
              refine hK.out _ _ (hHeld.setRowNew b7 _) (fun hHeld => ?_)
              replace c7 := c7.setRow (feC (eu a))
              clear hK K
              try simp only [Act.put, List.setIfInBounds_toArray, List.set_cons_zero, List.set_cons_succ]
              refine wpAnyH_done (by kernel_rfl) ?_ _
              exact ⟨(x3.heap.size), gp, gh, rfl, b7, c7, hHeld⟩
            exact AllReadyH.nil
          exact AllReadyH.nil
        refine AllReadyH.cons (o := _) rfl (fun K hK => ?_) ?_
        ·
          go_simp
          have b7 : y1.heap.size ≤ x2.heap.size := by have h := hHeld.size; simpa using h
          have c7 : Blk (x2.alloc (.cells z32 23)) (x2.heap.size) z32 23 := by have h := Blk.new x2 z32 23; simpa using h
          refine hK.out _ _ (hHeld.alloc _) (fun hHeld => ?_)
          replace hh := hh.alloc (.cells z32 23)
          clear hK K
          try simp only [Act.put, List.setIfInBounds_toArray, List.set_cons_zero, List.set_cons_succ]
          refine wpAnyH_ready (rs := [3]) (by kernel_rfl) (by simp) ?_
          refine AllReadyH.cons (o := _) rfl (fun K hK => ?_) ?_
          ·
            go_simp
            refine (power_half a ra gh _ hh).mono ?_
            rintro e x4 ⟨rfl, k⟩
            go_wp2_with fail
            refine hK.out _ _ (hHeld.trans1 k) (fun hHeld => ?_)
            replace c7 := c7.chg k (by simp)
            clear k
            clear hK K
            try simp only [Act.put, List.setIfInBounds_toArray, List.set_cons_zero, List.set_cons_succ]
            refine wpAnyH_ready (rs := [5]) (by kernel_rfl) (by simp) ?_
            refine AllReadyH.cons (o := _) rfl (fun K hK => ?_) ?_
            ·
              rw [if_pos (by rfl)]
              refine wp_store_row 23 _ _ rfl (x2.heap.size) _ rfl rfl 23 _ c7 feInfo rfl (feC_one _) ?_
              refine hK.out _ _ (hHeld.setRowNew b7 _) (fun hHeld => ?_)
              replace c7 := c7.setRow (feC (eu a))
              clear hK K
              try simp only [Act.put, List.setIfInBounds_toArray, List.set_cons_zero, List.set_cons_succ]
              refine wpAnyH_done (by kernel_rfl) ?_ _
              exact ⟨(x2.heap.size), gp, gh, rfl, b7, c7, hHeld⟩
            exact AllReadyH.nil
          exact AllReadyH.nil
        exact AllReadyH.nil
      refine AllReadyH.cons (o := _) rfl (fun K hK => ?_) ?_
      ·
        go_simp
        have b7 : y1.heap.size ≤ x1.heap.size := by have h := hHeld.size; simpa using h
        have c7 : Blk (x1.alloc (.cells z32 23)) (x1.heap.size) z32 23 := by have h := Blk.new x1 z32 23; simpa using h
        refine hK.out _ _ (hHeld.alloc _) (fun hHeld => ?_)
        replace hp := hp.alloc (.cells z32 23)
        clear hK K
        try simp only [Act.put, List.setIfInBounds_toArray, List.set_cons_zero, List.set_cons_succ]
        refine wpAnyH_ready (rs := [2]) (by kernel_rfl) (by simp) ?_
        refine AllReadyH.cons (o := _) rfl (fun K hK => ?_) ?_
        ·
          go_simp
          refine (halved_p gp _ hp).mono ?_
          rintro e x5 ⟨gh, rfl, hh, k⟩
          go_wp2_with fail
          refine hK.out _ _ (hHeld.trans1 k) (fun hHeld => ?_)
          replace c7 := c7.chg k (by simp)
          clear k
          clear hK K
          try simp only [Act.put, List.setIfInBounds_toArray, List.set_cons_zero, List.set_cons_succ]
          refine wpAnyH_ready (rs := [3]) (by kernel_rfl) (by simp) ?_
          refine AllReadyH.cons (o := _) rfl (fun K hK => ?_) ?_
          ·
            go_simp
            refine (power_half a ra gh _ hh).mono ?_
            rintro e x6 ⟨rfl, k⟩
            go_wp2_with fail
            refine hK.out _ _ (hHeld.trans1 k) (fun hHeld => ?_)
            replace c7 := c7.chg k (by simp)
            clear k
            clear hK K
            try simp only [Act.put, List.setIfInBounds_toArray, List.set_cons_zero, List.set_cons_succ]
            refine wpAnyH_ready (rs := [5]) (by kernel_rfl) (by simp) ?_
            refine AllReadyH.cons (o := _) rfl (fun K hK => ?_) ?_
            ·
              rw [if_pos (by rfl)]
              refine wp_store_row 23 _ _ rfl (x1.heap.size) _ rfl rfl 23 _ c7 feInfo rfl (feC_one _) ?_
              refine hK.out _ _ (hHeld.setRowNew b7 _) (fun hHeld => ?_)
              replace c7 := c7.setRow (feC (eu a))
              clear hK K
              try simp only [Act.put, List.setIfInBounds_toArray, List.set_cons_zero, List.set_cons_succ]
              refine wpAnyH_done (by kernel_rfl) ?_ _
              exact ⟨(x1.heap.size), gp, gh, rfl, b7, c7, hHeld⟩
            exact AllReadyH.nil
          exact AllReadyH.nil
        exact AllReadyH.nil
      exact AllReadyH.nil
    refine AllReadyH.cons (o := _) rfl (fun K hK => ?_) ?_
    ·
      go_simp
      have b7 : y1.heap.size ≤ y1.heap.size := by have h := hHeld.size; simpa using h
      have c7 : Blk (y1.drew.alloc (.cells z32 23)) (y1.heap.size) z32 23 := by have h := Blk.new y1.drew z32 23; simpa using h
      refine hK.out _ _ (hHeld.alloc _) (fun hHeld => ?_)
      clear hK K
      try simp only [Act.put, List.setIfInBounds_toArray, List.set_cons_zero, List.set_cons_succ]
      refine wpAnyH_ready (rs := [1]) (by kernel_rfl) (by simp) ?_
      refine AllReadyH.cons (o := _) rfl (fun K hK => ?_) ?_
      ·
        go_simp
        refine (prime_p 1 (by decide) (by decide) _).mono ?_
        rintro e x7 ⟨gp, rfl, hp, k⟩
        go_wp2_with fail
        refine hK.out _ _ (hHeld.trans1 k) (fun hHeld => ?_)
        replace c7 := c7.chg k (by simp)
        clear k
        clear hK K
        try simp only [Act.put, List.setIfInBounds_toArray, List.set_cons_zero, List.set_cons_succ]
        refine wpAnyH_ready (rs := [2]) (by kernel_rfl) (by simp) ?_
        refine AllReadyH.cons (o := _) rfl (fun K hK => ?_) ?_
        ·
          go_simp
          refine (halved_p gp _ hp).mono ?_
          rintro e x8 ⟨gh, rfl, hh, k⟩
          go_wp2_with fail
          refine hK.out _ _ (hHeld.trans1 k) (fun hHeld => ?_)
          replace c7 := c7.chg k (by simp)
          clear k
          clear hK K
          try simp only [Act.put, List.setIfInBounds_toArray, List.set_cons_zero, List.set_cons_succ]
          refine wpAnyH_ready (rs := [3]) (by kernel_rfl) (by simp) ?_
          refine AllReadyH.cons (o := _) rfl (fun K hK => ?_) ?_
          ·
            go_simp
            refine (power_half a ra gh _ hh).mono ?_
            rintro e x9 ⟨rfl, k⟩
            go_wp2_with fail
            refine hK.out _ _ (hHeld.trans1 k) (fun hHeld => ?_)
            replace c7 := c7.chg k (by simp)
            clear k
            clear hK K
            try simp only [Act.put, List.setIfInBounds_toArray, List.set_cons_zero, List.set_cons_succ]
            refine wpAnyH_ready (rs := [5]) (by kernel_rfl) (by simp) ?_
            refine AllReadyH.cons (o := _) rfl (fun K hK => ?_) ?_
            ·
              rw [if_pos (by rfl)]
              refine wp_store_row 23 _ _ rfl (y1.heap.size) _ rfl rfl 23 _ c7 feInfo rfl (feC_one _) ?_
              refine hK.out _ _ (hHeld.setRowNew b7 _) (fun hHeld => ?_)
              replace c7 := c7.setRow (feC (eu a))
              clear hK K
              try simp only [Act.put, List.setIfInBounds_toArray, List.set_cons_zero, List.set_cons_succ]
              refine wpAnyH_done (by kernel_rfl) ?_ _
              exact ⟨(y1.heap.size), gp, gh, rfl, b7, c7, hHeld⟩
            exact AllReadyH.nil
          exact AllReadyH.nil
        exact AllReadyH.nil
      exact AllReadyH.nil
    exact AllReadyH.nil
  rintro a' z0 ⟨g5, gp, gh, rfl, b5, F5, k⟩
  have sa : w.heap.size + 1 < y1.heap.size := F1.lt
  replace F0 := F0.chg k (by simp)
  replace F1 := F1.chg k (by simp)
  replace CC := CC.trans1 k
  clear k
  have sz : g5 < z0.heap.size := F5.lt
  have sy : w.heap.size + 1 < z0.heap.size := F1.lt
  have A6 : Blk (z0.alloc (.cells z32 23)) z0.heap.size z32 23 := Blk.new z0 z32 23
  replace F0 : Blk ((z0.alloc (.cells z32 23)).setRow z0.heap.size (feC 0)) w.heap.size (feC a) 23 := (F0.alloc _).setRowOther (by omega) _
  replace F1 : Blk ((z0.alloc (.cells z32 23)).setRow z0.heap.size (feC 0)) (w.heap.size + 1) (feC b) 23 := (F1.alloc _).setRowOther (by omega) _
  replace F5 : Blk ((z0.alloc (.cells z32 23)).setRow z0.heap.size (feC 0)) g5 (feC (eu a)) 23 := (F5.alloc _).setRowOther (by omega) _
  have F6 : Blk ((z0.alloc (.cells z32 23)).setRow z0.heap.size (feC 0)) z0.heap.size (feC 0) 23 := A6.setRow _
  have lo6 : w.heap.size ≤ z0.heap.size := by omega
  replace CC : Chg w ((z0.alloc (.cells z32 23)).setRow z0.heap.size (feC 0)) [] := (CC.alloc (.cells z32 23)).setRowNew lo6 _
  go_wp2_with (first | (refine wpList_store_row rfl 23 _ _ rfl z0.heap.size _ rfl rfl 23 _ A6 feInfo rfl (feC_one _) ?_) | (refine gl_load (by rfl) 23 _ rfl w.heap.size rfl 23 (feC a) _ F0 Try.underlying23 rfl feInfo ?_) | (refine gl_build (by rfl) 23 #[] rfl (feC 0) (by kernel_rfl) ?_))
  clear A6
  refine (Legendre_fe a ra 0 n1.out _).mono ?_
  rintro e y2 ⟨rfl, k⟩
  replace F0 := F0.chg k (by simp)
  replace F1 := F1.chg k (by simp)
  replace F5 := F5.chg k (by simp)
  replace F6 := F6.chg k (by simp)
  replace CC := CC.trans1 k
  clear k
  go_wp2_with fail
  refine wp_region_held_drew (S := fun w' => Chg y2 w' []) (by kernel_rfl) ((Chg.refl y2 []).drew) (fun hHeld => ?_)
  refine take_load 0 (some 23) (feC a) rfl (by kernel_rfl) (by kernel_rfl) (by kernel_rfl) (fun _ _ _ h => h) rfl rfl 23 _ rfl w.heap.size rfl 23 _ (fun w h => F0.chg h (by simp)) Try.underlying23 rfl (by first | exact feInfo | kernel_rfl) hHeld ?_
  try simp only [Act.put, List.setIfInBounds_toArray, List.set_cons_zero, List.set_cons_succ]
  refine take_load 3 (some 26) (feC a) rfl (by kernel_rfl) (by kernel_rfl) (by kernel_rfl) (fun _ _ _ h => h) rfl rfl 23 _ rfl w.heap.size rfl 23 _ (fun w h => F0.chg h (by simp)) Try.underlying23 rfl (by first | exact feInfo | kernel_rfl) hHeld ?_
  try simp only [Act.put, List.setIfInBounds_toArray, List.set_cons_zero, List.set_cons_succ]
  refine wpAnyH_ready (rs := [1]) (by kernel_rfl) (by simp) ?_
  refine AllReadyH.cons (o := _) rfl (fun K hK => ?_) ?_
  ·
    go_simp
    refine (prime_p 0 (by decide) (by decide) _).mono ?_
    rintro e q1 ⟨gq, rfl, hq, k⟩
    go_wp2_with fail
    refine hK.out _ _ (hHeld.trans1 k) (fun hHeld => ?_)
    clear hK K
    try simp only [Act.put, List.setIfInBounds_toArray, List.set_cons_zero, List.set_cons_succ]
    refine wpAnyH_ready (rs := [2]) (by kernel_rfl) (by simp) ?_
    refine AllReadyH.cons (o := _) rfl (fun K hK => ?_) ?_
    ·
      go_simp
      refine (power_full a ra gq _ hq).mono ?_
      rintro e q2 ⟨rfl, k⟩
      go_wp2_with fail
      refine hK.out _ _ (hHeld.trans1 k) (fun hHeld => ?_)
      clear hK K
      try simp only [Act.put, List.setIfInBounds_toArray, List.set_cons_zero, List.set_cons_succ]
      refine wpAnyH_ready (rs := [4]) (by kernel_rfl) (by simp) ?_
      refine AllReadyH.cons (o := _) rfl (fun K hK => ?_) ?_
      ·
        go_simp
        refine (Equal_q (fm a) a (r256_fm a) ra true n4.out _).mono ?_
        rintro e q3 ⟨rfl, k⟩
        go_wp2_with fail
        refine hK.out _ _ (hHeld.trans1 k) (fun hHeld => ?_)
        clear hK K
        try simp only [Act.put, List.setIfInBounds_toArray, List.set_cons_zero, List.set_cons_succ]
        refine take_val (v := (.bool true)) 5 (some 28) rfl (by kernel_rfl) (by kernel_rfl) (by kernel_rfl) (fun _ _ _ h => h) rfl rfl (fun w hSw => ?_) hHeld ?_
        · (go_simp; first | done | with_reducible rfl | exact wrap_m1 | exact wrap_1 | exact wrap_0 | kernel_rfl | decide +kernel)
        try simp only [Act.put, List.setIfInBounds_toArray, List.set_cons_zero, List.set_cons_succ]
        refine take_load 6 (some 29) (feC (eu a)) rfl (by kernel_rfl) (by kernel_rfl) (by kernel_rfl) (fun _ _ _ h => h) rfl rfl 23 _ rfl g5 rfl 23 _ (fun w h => F5.chg h (by simp)) Try.underlying23 rfl (by first | exact feInfo | kernel_rfl) hHeld ?_
        try simp only [Act.put, List.setIfInBounds_toArray, List.set_cons_zero, List.set_cons_succ]
        refine take_load 7 (some 30) (feC 0) rfl (by kernel_rfl) (by kernel_rfl) (by kernel_rfl) (fun _ _ _ h => h) rfl rfl 23 _ rfl z0.heap.size rfl 23 _ (fun w h => F6.chg h (by simp)) Try.underlying23 rfl (by first | exact feInfo | kernel_rfl) hHeld ?_
        try simp only [Act.put, List.setIfInBounds_toArray, List.set_cons_zero, List.set_cons_succ]
        refine take_val (v := (.bool true)) 8 (some 31) rfl (by kernel_rfl) (by kernel_rfl) (by kernel_rfl) (fun _ _ _ h => h) rfl rfl (fun w hSw => ?_) hHeld ?_
        · (go_simp; first | done | with_reducible rfl | exact wrap_m1 | exact wrap_1 | exact wrap_0 | kernel_rfl | decide +kernel)
        try simp only [Act.put, List.setIfInBounds_toArray, List.set_cons_zero, List.set_cons_succ]
        refine take_val (v := (.bool true)) 9 (some 32) rfl (by kernel_rfl) (by kernel_rfl) (by kernel_rfl) (fun _ _ _ h => h) rfl rfl (fun w hSw => ?_) hHeld ?_
        · (go_simp; first | done | with_reducible rfl | exact wrap_m1 | exact wrap_1 | exact wrap_0 | kernel_rfl | decide +kernel)
        try simp only [Act.put, List.setIfInBounds_toArray, List.set_cons_zero, List.set_cons_succ]
        refine take_val (v := (.bool true)) 10 (some 33) rfl (by kernel_rfl) (by kernel_rfl) (by kernel_rfl) (fun _ _ _ h => h) rfl rfl (fun w hSw => ?_) hHeld ?_
        · (go_simp; first | done | with_reducible rfl | exact wrap_m1 | exact wrap_1 | exact wrap_0 | kernel_rfl | decide +kernel)
        try simp only [Act.put, List.setIfInBounds_toArray, List.set_cons_zero, List.set_cons_succ]
        refine take_load 11 (some 34) (feC a) rfl (by kernel_rfl) (by kernel_rfl) (by kernel_rfl) (fun _ _ _ h => h) rfl rfl 23 _ rfl w.heap.size rfl 23 _ (fun w h => F0.chg h (by simp)) Try.underlying23 rfl (by first | exact feInfo | kernel_rfl) hHeld ?_
        try simp only [Act.put, List.setIfInBounds_toArray, List.set_cons_zero, List.set_cons_succ]
        refine take_load 12 (some 35) (feC b) rfl (by kernel_rfl) (by kernel_rfl) (by kernel_rfl) (fun _ _ _ h => h) rfl rfl 23 _ rfl (w.heap.size + 1) rfl 23 _ (fun w h => F1.chg h (by simp)) Try.underlying23 rfl (by first | exact feInfo | kernel_rfl) hHeld ?_
        try simp only [Act.put, List.setIfInBounds_toArray, List.set_cons_zero, List.set_cons_succ]
        refine take_load 15 (some 38) (feC a) rfl (by kernel_rfl) (by kernel_rfl) (by kernel_rfl) (fun _ _ _ h => h) rfl rfl 23 _ rfl w.heap.size rfl 23 _ (fun w h => F0.chg h (by simp)) Try.underlying23 rfl (by first | exact feInfo | kernel_rfl) hHeld ?_
        try simp only [Act.put, List.setIfInBounds_toArray, List.set_cons_zero, List.set_cons_succ]
        refine take_load 17 (some 40) (feC b) rfl (by kernel_rfl) (by kernel_rfl) (by kernel_rfl) (fun _ _ _ h => h) rfl rfl 23 _ rfl (w.heap.size + 1) rfl 23 _ (fun w h => F1.chg h (by simp)) Try.underlying23 rfl (by first | exact feInfo | kernel_rfl) hHeld ?_
        try simp only [Act.put, List.setIfInBounds_toArray, List.set_cons_zero, List.set_cons_succ]
        refine wpAnyH_ready (rs := [13]) (by kernel_rfl) (by simp) ?_
        refine AllReadyH.cons (o := _) rfl (fun K hK => ?_) ?_
        ·
          go_simp
          refine (Mul_q a b ra rb _).mono ?_
          rintro e q4 ⟨rfl, k⟩
          go_wp2_with fail
          refine hK.out _ _ (hHeld.trans1 k) (fun hHeld => ?_)
          clear hK K
          try simp only [Act.put, List.setIfInBounds_toArray, List.set_cons_zero, List.set_cons_succ]
          refine wpAnyH_ready (rs := [14]) (by kernel_rfl) (by simp) ?_
          refine AllReadyH.cons (o := _) rfl (fun K hK => ?_) ?_
          ·
            go_simp
            refine (Legendre_fe (ml2 a b) (r256_mod _) 0 n3.out _).mono ?_
            rintro e q5 ⟨rfl, k⟩
            go_wp2_with fail
            refine hK.out _ _ (hHeld.trans1 k) (fun hHeld => ?_)
            clear hK K
            try simp only [Act.put, List.setIfInBounds_toArray, List.set_cons_zero, List.set_cons_succ]
            refine wpAnyH_ready (rs := [16]) (by kernel_rfl) (by simp) ?_
            refine AllReadyH.cons (o := _) rfl (fun K hK => ?_) ?_
            ·
              go_simp
              refine (Legendre_fe a ra 0 n1.out _).mono ?_
              rintro e q6 ⟨rfl, k⟩
              go_wp2_with fail
              refine hK.out _ _ (hHeld.trans1 k) (fun hHeld => ?_)
              clear hK K
              try simp only [Act.put, List.setIfInBounds_toArray, List.set_cons_zero, List.set_cons_succ]
              refine wpAnyH_ready (rs := [18]) (by kernel_rfl) (by simp) ?_
              refine AllReadyH.cons (o := _) rfl (fun K hK => ?_) ?_
              ·
                go_simp
                refine (Legendre_fe b rb 1 n2.out _).mono ?_
                rintro e q7 ⟨rfl, k⟩
                go_wp2_with fail
                refine hK.out _ _ (hHeld.trans1 k) (fun hHeld => ?_)
                clear hK K
                try simp only [Act.put, List.setIfInBounds_toArray, List.set_cons_zero, List.set_cons_succ]
                refine take_val (v := (.int .i64 0)) 19 (some 42) rfl (by kernel_rfl) (by kernel_rfl) (by kernel_rfl) (fun _ _ _ h => h) rfl rfl (fun w hSw => ?_) hHeld ?_
                · (go_simp; first | done | with_reducible rfl | exact wrap_m1 | exact wrap_1 | exact wrap_0 | kernel_rfl | decide +kernel)
                try simp only [Act.put, List.setIfInBounds_toArray, List.set_cons_zero, List.set_cons_succ]
                refine take_val (v := (.bool true)) 20 (some 43) rfl (by kernel_rfl) (by kernel_rfl) (by kernel_rfl) (fun _ _ _ h => h) rfl rfl (fun w hSw => ?_) hHeld ?_
                · (go_simp; first | done | with_reducible rfl | exact wrap_m1 | exact wrap_1 | exact wrap_0 | kernel_rfl | decide +kernel)
                try simp only [Act.put, List.setIfInBounds_toArray, List.set_cons_zero, List.set_cons_succ]
                refine take_val (v := (.bool true)) 21 (some 44) rfl (by kernel_rfl) (by kernel_rfl) (by kernel_rfl) (fun _ _ _ h => h) rfl rfl (fun w hSw => ?_) hHeld ?_
                · (go_simp; first | done | with_reducible rfl | exact wrap_m1 | exact wrap_1 | exact wrap_0 | kernel_rfl | decide +kernel)
                try simp only [Act.put, List.setIfInBounds_toArray, List.set_cons_zero, List.set_cons_succ]
                refine take_val (v := ?_) 22 (some 4) rfl (by kernel_rfl) (by kernel_rfl) (by kernel_rfl) (fun _ _ _ h => h) rfl rfl (fun w hSw => ?_) hHeld ?_
                rotate_left
                · (go_simp; first | done | with_reducible rfl | exact wrap_m1 | exact wrap_1 | exact wrap_0 | kernel_rfl | decide +kernel)
                try simp only [Act.put, List.setIfInBounds_toArray, List.set_cons_zero, List.set_cons_succ]
                refine wpAnyH_done (by kernel_rfl) ?_ _
                go_wp2
                go_ret
                exact ⟨rfl, CC.trans1 hHeld⟩
              exact AllReadyH.nil
            exact AllReadyH.nil
          exact AllReadyH.nil
        exact AllReadyH.nil
      exact AllReadyH.nil
    exact AllReadyH.nil
  exact AllReadyH.nil

set_option maxHeartbeats 16000000 in
set_option maxRecDepth 100000 in
theorem fermat_zm (a b : Int) (ra : R256 a) (rb : R256 b) (n1 : Hid (0 = leg a)) (n2 : Hid ((-1) = leg b)) (n3 : Hid (0 = leg (ml2 a b))) (n4 : Hid (eqf (fm a % P) (a % P) = true)) (n5 : eqf (eu a) 0 = true) (w : World) :
    Calls Try.prog 4 #[fe a, fe b] w fun e w' => e = .returned (.bool true) ∧ Chg w w' [] := by
  have hge := feGuard
  have F0 : Blk ((w.alloc (.cells (feC a) 23)).alloc (.cells (feC b) 23)) w.heap.size (feC a) 23 := (Blk.new w (feC a) 23).alloc _
  have F1 : Blk ((w.alloc (.cells (feC a) 23)).alloc (.cells (feC b) 23)) (w.heap.size + 1) (feC b) 23 := by have h := Blk.new (w.alloc (.cells (feC a) 23)) (feC b) 23; simpa using h
  have CC : Chg w ((w.alloc (.cells (feC a) 23)).alloc (.cells (feC b) 23)) [] := ((Chg.refl w []).alloc (.cells (feC a) 23)).alloc (.cells (feC b) 23)
  go_enter Try.func4, Try.ntmps4
  go_wp2_with fail
  refine (alive_true _).mono ?_
  rintro e y1 ⟨rfl, k⟩
  replace F0 := F0.chg k (by simp)
  replace F1 := F1.chg k (by simp)
  replace CC := CC.trans1 k
  clear k
  go_wp2_with fail
  refine region_cut (fun a' w' => ∃ g5 gp gh : Nat, a' = ⟨#[fe a, fe b, .pointer (some ⟨w.heap.size, 0, none⟩), .pointer (some ⟨(w.heap.size + 1), 0, none⟩), .bool false, .pointer (some ⟨g5, 0, none⟩), undef, .bool true, .bool false, .agg (feC a), .slice (some ⟨gp, 0, none⟩) 32 32, .slice (some ⟨gh, 0, none⟩) 32 32, fe (eu a), undef, undef, undef, undef, undef, undef, undef, undef, undef, undef, undef, undef, undef, undef, undef, undef, undef, undef, undef, undef, undef, undef, undef, undef, undef, undef, undef, undef, undef, undef, undef, undef], []⟩ ∧ y1.heap.size ≤ g5 ∧ Blk w' g5 (feC (eu a)) 23 ∧ Chg y1 w' []) ?_ ?_
  ·
    refine wp_region_held_drew (S := fun w' => Chg y1 w' []) (by kernel_rfl) ((Chg.refl y1 []).drew) (fun hHeld => ?_)
    refine take_load 0 (some 9) (feC a) rfl (by kernel_rfl) (by kernel_rfl) (by kernel_rfl) (fun _ _ _ h => h) rfl rfl 23 _ rfl w.heap.size rfl 23 _ (fun w h => F0.chg h (by simp)) Try.underlying23 rfl feInfo hHeld ?_
    try simp only [Act.put, List.setIfInBounds_toArray, List.set_cons_zero, List.set_cons_succ]
    refine wpAnyH_ready (rs := [1, 4]) (by kernel_rfl) (by simp) ?_
    refine AllReadyH.cons (o := _) rfl (fun K hK => ?_) ?_
    ·
      go_simp
      refine (prime_p 1 (by decide) (by decide) _).mono ?_
      rintro e x1 ⟨gp, rfl, hp, k⟩
      go_wp2_with fail
      refine hK.out _ _ (hHeld.trans1 k) (fun hHeld => ?_)
      clear k
      clear hK K
      try simp only [Act.put, List.setIfInBounds_toArray, List.set_cons_zero, List.set_cons_succ]
      refine wpAnyH_ready (rs := [2, 4]) (by kernel_rfl) (by simp) ?_
      refine AllReadyH.cons (o := _) rfl (fun K hK => ?_) ?_
      ·
        go_simp
        refine (halved_p gp _ hp).mono ?_
        rintro e x2 ⟨gh, rfl, hh, k⟩
        go_wp2_with fail
        refine hK.out _ _ (hHeld.trans1 k) (fun hHeld => ?_)
        clear k
        clear hK K
        try simp only [Act.put, List.setIfInBounds_toArray, List.set_cons_zero, List.set_cons_succ]
        refine wpAnyH_ready (rs := [3, 4]) (by kernel_rfl) (by simp) ?_
        refine AllReadyH.cons (o := _) rfl (fun K hK => ?_) ?_
        ·
          go_simp
          refine (power_half a ra gh _ hh).mono ?_
          rintro e x3 ⟨rfl, k⟩
          go_wp2_with fail
          refine hK.out _ _ (hHeld.trans1 k) (fun hHeld => ?_)
          clear k
          clear hK K
          try simp only [Act.put, List.setIfInBounds_toArray, List.set_cons_zero, List.set_cons_succ]
          refine wpAnyH_ready (rs := [4]) (by kernel_rfl) (by simp) ?_
          refine AllReadyH.cons (o := _) rfl (fun K hK => ?_) ?_
          ·
            go_simp
            have b7 : y1.heap.size ≤ x3.heap.size := by have h := hHeld.size; simpa using h
            have c7 : Blk (x3.alloc (.cells z32 23)) (x3.heap.size) z32 23 := by have h := Blk.new x3 z32 23; simpa using h
            refine hK.out _ _ (hHeld.alloc _) (fun hHeld => ?_)
            replace hh := hh.alloc (.cells z32 23)
            clear hK K
            try simp only [Act.put, List.setIfInBounds_toArray, List.set_cons_zero, List.set_cons_succ]
            refine wpAnyH_ready (rs := [5]) (by kernel_rfl) (by simp) ?_
            refine AllReadyH.cons (o := _) rfl (fun K hK => ?_) ?_
            ·
              rw [if_pos (by rfl)]
              refine wp_store_row 23 _ _ rfl (x3.heap.size) _ rfl rfl 23 _ c7 feInfo rfl (feC_one _) ?_
              refine hK.out _ _ (hHeld.setRowNew b7 _) (fun hHeld => ?_)
              replace c7 := c7.setRow (feC (eu a))
              clear hK K
              try simp only [Act.put, List.setIfInBounds_toArray, List.set_cons_zero, List.set_cons_succ]
              refine wpAnyH_done (by kernel_rfl) ?_ _
              exact ⟨(x3.heap.size), gp, gh, rfl, b7, c7, hHeld⟩
            exact AllReadyH.nil
          exact AllReadyH.nil
        refine AllReadyH.cons (o := _) rfl (fun K hK => ?_) ?_
        ·
          go_simp
          have b7 : y1.heap.size ≤ x2.heap.size := by have h := hHeld.size; simpa using h
          have c7 : Blk (x2.alloc (.cells z32 23)) (x2.heap.size) z32 23 := by have h := Blk.new x2 z32 23; simpa using h
          refine hK.out _ _ (hHeld.alloc _) (fun hHeld => ?_)
          replace hh := hh.alloc (.cells z32 23)
          clear hK K
          try simp only [Act.put, List.setIfInBounds_toArray, List.set_cons_zero, List.set_cons_succ]
          refine wpAnyH_ready (rs := [3]) (by kernel_rfl) (by simp) ?_
          refine AllReadyH.cons (o := _) rfl (fun K hK => ?_) ?_
          ·
            go_simp
            refine (power_half a ra gh _ hh).mono ?_
            rintro e x4 ⟨rfl, k⟩
            go_wp2_with fail
            refine hK.out _ _ (hHeld.trans1 k) (fun hHeld => ?_)
            replace c7 := c7.chg k (by simp)
            clear k
            clear hK K
            try simp only [Act.put, List.setIfInBounds_toArray, List.set_cons_zero, List.set_cons_succ]
            refine wpAnyH_ready (rs := [5]) (by kernel_rfl) (by simp) ?_
            refine AllReadyH.cons (o := _) rfl (fun K hK => ?_) ?_
            ·
              rw [if_pos (by rfl)]
              refine wp_store_row 23 _ _ rfl (x2.heap.size) _ rfl rfl 23 _ c7 feInfo rfl (feC_one _) ?_
              refine hK.out _ _ (hHeld.setRowNew b7 _) (fun hHeld => ?_)
              replace c7 := c7.setRow (feC (eu a))
              clear hK K
              try simp only [Act.put, List.setIfInBounds_toArray, List.set_cons_zero, List.set_cons_succ]
              refine wpAnyH_done (by kernel_rfl) ?_ _
              exact ⟨(x2.heap.size), gp, gh, rfl, b7, c7, hHeld⟩
            exact AllReadyH.nil
          exact AllReadyH.nil
        exact AllReadyH.nil
      refine AllReadyH.cons (o := _) rfl (fun K hK => ?_) ?_
      ·
        go_simp
        have b7 : y1.heap.size ≤ x1.heap.size := by have h := hHeld.size; simpa using h
        have c7 : Blk (x1.alloc (.cells z32 23)) (x1.heap.size) z32 23 := by have h := Blk.new x1 z32 23; simpa using h
        refine hK.out _ _ (hHeld.alloc _) (fun hHeld => ?_)
        replace hp := hp.alloc (.cells z32 23)
        clear hK K
        try simp only [Act.put, List.setIfInBounds_toArray, List.set_cons_zero, List.set_cons_succ]
        refine wpAnyH_ready (rs := [2]) (by kernel_rfl) (by simp) ?_
        refine AllReadyH.cons (o := _) rfl (fun K hK => ?_) ?_
        ·
          go_simp
          refine (halved_p gp _ hp).mono ?_
          rintro e x5 ⟨gh, rfl, hh, k⟩
          go_wp2_with fail
          refine hK.out _ _ (hHeld.trans1 k) (fun hHeld => ?_)
          replace c7 := c7.chg k (by simp)
          clear k
          clear hK K
          try simp only [Act.put, List.setIfInBounds_toArray, List.set_cons_zero, List.set_cons_succ]
          refine wpAnyH_ready (rs := [3]) (by kernel_rfl) (by simp) ?_
          refine AllReadyH.cons (o := _) rfl (fun K hK => ?_) ?_
          ·
            go_simp
            refine (power_half a ra gh _ hh).mono ?_
            rintro e x6 ⟨rfl, k⟩
            go_wp2_with fail
            refine hK.out _ _ (hHeld.trans1 k) (fun hHeld => ?_)
            replace c7 := c7.chg k (by simp)
            clear k
            clear hK K
            try simp only [Act.put, List.setIfInBounds_toArray, List.set_cons_zero, List.set_cons_succ]
            refine wpAnyH_ready (rs := [5]) (by kernel_rfl) (by simp) ?_
            refine AllReadyH.cons (o := _) rfl (fun K hK => ?_) ?_
            ·
              rw [if_pos (by rfl)]
              refine wp_store_row 23 _ _ rfl (x1.heap.size) _ rfl rfl 23 _ c7 feInfo rfl (feC_one _) ?_
              refine hK.out _ _ (hHeld.setRowNew b7 _) (fun hHeld => ?_)
              replace c7 := c7.setRow (feC (eu a))
              clear hK K
              try simp only [Act.put, List.setIfInBounds_toArray, List.set_cons_zero, List.set_cons_succ]
              refine wpAnyH_done (by kernel_rfl) ?_ _
              exact ⟨(x1.heap.size), gp, gh, rfl, b7, c7, hHeld⟩
            exact AllReadyH.nil
          exact AllReadyH.nil
        exact AllReadyH.nil
      exact AllReadyH.nil
    refine AllReadyH.cons (o := _) rfl (fun K hK => ?_) ?_
    ·
      go_simp
      have b7 : y1.heap.size ≤ y1.heap.size := by have h := hHeld.size; simpa using h
      have c7 : Blk (y1.drew.alloc (.cells z32 23)) (y1.heap.size) z32 23 := by have h := Blk.new y1.drew z32 23; simpa using h
      refine hK.out _ _ (hHeld.alloc _) (fun hHeld => ?_)
      clear hK K
      try simp only [Act.put, List.setIfInBounds_toArray, List.set_cons_zero, List.set_cons_succ]
      refine wpAnyH_ready (rs := [1]) (by kernel_rfl) (by simp) ?_
      refine AllReadyH.cons (o := _) rfl (fun K hK => ?_) ?_
      ·
        go_simp
        refine (prime_p 1 (by decide) (by decide) _).mono ?_
        rintro e x7 ⟨gp, rfl, hp, k⟩
        go_wp2_with fail
        refine hK.out _ _ (hHeld.trans1 k) (fun hHeld => ?_)
        replace c7 := c7.chg k (by simp)
        clear k
        clear hK K
        try simp only [Act.put, List.setIfInBounds_toArray, List.set_cons_zero, List.set_cons_succ]
        refine wpAnyH_ready (rs := [2]) (by kernel_rfl) (by simp) ?_
        refine AllReadyH.cons (o := _) rfl (fun K hK => ?_) ?_
        ·
          go_simp
          refine (halved_p gp _ hp).mono ?_
          rintro e x8 ⟨gh, rfl, hh, k⟩
          go_wp2_with fail
          refine hK.out _ _ (hHeld.trans1 k) (fun hHeld => ?_)
          replace c7 := c7.chg k (by simp)
          clear k
          clear hK K
          try simp only [Act.put, List.setIfInBounds_toArray, List.set_cons_zero, List.set_cons_succ]
          refine wpAnyH_ready (rs := [3]) (by kernel_rfl) (by simp) ?_
          refine AllReadyH.cons (o := _) rfl (fun K hK => ?_) ?_
          ·
            go_simp
            refine (power_half a ra gh _ hh).mono ?_
            rintro e x9 ⟨rfl, k⟩
            go_wp2_with fail
            refine hK.out _ _ (hHeld.trans1 k) (fun hHeld => ?_)
            replace c7 := c7.chg k (by simp)
            clear k
            clear hK K
            try simp only [Act.put, List.setIfInBounds_toArray, List.set_cons_zero, List.set_cons_succ]
            refine wpAnyH_ready (rs := [5]) (by kernel_rfl) (by simp) ?_
            refine AllReadyH.cons (o := _) rfl (fun K hK => ?_) ?_
            ·
              rw [if_pos (by rfl)]
              refine wp_store_row 23 _ _ rfl (y1.heap.size) _ rfl rfl 23 _ c7 feInfo rfl (feC_one _) ?_
              refine hK.out _ _ (hHeld.setRowNew b7 _) (fun hHeld => ?_)
              replace c7 := c7.setRow (feC (eu a))
              clear hK K
              try simp only [Act.put, List.setIfInBounds_toArray, List.set_cons_zero, List.set_cons_succ]
              refine wpAnyH_done (by kernel_rfl) ?_ _
              exact ⟨(y1.heap.size), gp, gh, rfl, b7, c7, hHeld⟩
            exact AllReadyH.nil
          exact AllReadyH.nil
        exact AllReadyH.nil
      exact AllReadyH.nil
    exact AllReadyH.nil
  rintro a' z0 ⟨g5, gp, gh, rfl, b5, F5, k⟩
  have sa : w.heap.size + 1 < y1.heap.size := F1.lt
  replace F0 := F0.chg k (by simp)
  replace F1 := F1.chg k (by simp)
  replace CC := CC.trans1 k
  clear k
  have sz : g5 < z0.heap.size := F5.lt
  have sy : w.heap.size + 1 < z0.heap.size := F1.lt
  have A6 : Blk (z0.alloc (.cells z32 23)) z0.heap.size z32 23 := Blk.new z0 z32 23
  replace F0 : Blk ((z0.alloc (.cells z32 23)).setRow z0.heap.size (feC 0)) w.heap.size (feC a) 23 := (F0.alloc _).setRowOther (by omega) _
  replace F1 : Blk ((z0.alloc (.cells z32 23)).setRow z0.heap.size (feC 0)) (w.heap.size + 1) (feC b) 23 := (F1.alloc _).setRowOther (by omega) _
  replace F5 : Blk ((z0.alloc (.cells z32 23)).setRow z0.heap.size (feC 0)) g5 (feC (eu a)) 23 := (F5.alloc _).setRowOther (by omega) _
  have F6 : Blk ((z0.alloc (.cells z32 23)).setRow z0.heap.size (feC 0)) z0.heap.size (feC 0) 23 := A6.setRow _
  have lo6 : w.heap.size ≤ z0.heap.size := by omega
  replace CC : Chg w ((z0.alloc (.cells z32 23)).setRow z0.heap.size (feC 0)) [] := (CC.alloc (.cells z32 23)).setRowNew lo6 _
  go_wp2_with (first | (refine wpList_store_row rfl 23 _ _ rfl z0.heap.size _ rfl rfl 23 _ A6 feInfo rfl (feC_one _) ?_) | (refine gl_load (by rfl) 23 _ rfl w.heap.size rfl 23 (feC a) _ F0 Try.underlying23 rfl feInfo ?_) | (refine gl_build (by rfl) 23 #[] rfl (feC 0) (by kernel_rfl) ?_))
  clear A6
  refine (Legendre_fe a ra 0 n1.out _).mono ?_
  rintro e y2 ⟨rfl, k⟩
  replace F0 := F0.chg k (by simp)
  replace F1 := F1.chg k (by simp)
  replace F5 := F5.chg k (by simp)
  replace F6 := F6.chg k (by simp)
  replace CC := CC.trans1 k
  clear k
  go_wp2_with fail
  refine wp_region_held_drew (S := fun w' => Chg y2 w' []) (by kernel_rfl) ((Chg.refl y2 []).drew) (fun hHeld => ?_)
  refine take_load 0 (some 23) (feC a) rfl (by kernel_rfl) (by kernel_rfl) (by kernel_rfl) (fun _ _ _ h => h) rfl rfl 23 _ rfl w.heap.size rfl 23 _ (fun w h => F0.chg h (by simp)) Try.underlying23 rfl (by first | exact feInfo | kernel_rfl) hHeld ?_
  try simp only [Act.put, List.setIfInBounds_toArray, List.set_cons_zero, List.set_cons_succ]
  refine take_load 3 (some 26) (feC a) rfl (by kernel_rfl) (by kernel_rfl) (by kernel_rfl) (fun _ _ _ h => h) rfl rfl 23 _ rfl w.heap.size rfl 23 _ (fun w h => F0.chg h (by simp)) Try.underlying23 rfl (by first | exact feInfo | kernel_rfl) hHeld ?_
  try simp only [Act.put, List.setIfInBounds_toArray, List.set_cons_zero, List.set_cons_succ]
  refine wpAnyH_ready (rs := [1]) (by kernel_rfl) (by simp) ?_
  refine AllReadyH.cons (o := _) rfl (fun K hK => ?_) ?_
  ·
    go_simp
    refine (prime_p 0 (by decide) (by decide) _).mono ?_
    rintro e q1 ⟨gq, rfl, hq, k⟩
    go_wp2_with fail
    refine hK.out _ _ (hHeld.trans1 k) (fun hHeld => ?_)
    clear hK K
    try simp only [Act.put, List.setIfInBounds_toArray, List.set_cons_zero, List.set_cons_succ]
    refine wpAnyH_ready (rs := [2]) (by kernel_rfl) (by simp) ?_
    refine AllReadyH.cons (o := _) rfl (fun K hK => ?_) ?_
    ·
      go_simp
      refine (power_full a ra gq _ hq).mono ?_
      rintro e q2 ⟨rfl, k⟩
      go_wp2_with fail
      refine hK.out _ _ (hHeld.trans1 k) (fun hHeld => ?_)
      clear hK K
      try simp only [Act.put, List.setIfInBounds_toArray, List.set_cons_zero, List.set_cons_succ]
      refine wpAnyH_ready (rs := [4]) (by kernel_rfl) (by simp) ?_
      refine AllReadyH.cons (o := _) rfl (fun K hK => ?_) ?_
      ·
        go_simp
        refine (Equal_q (fm a) a (r256_fm a) ra true n4.out _).mono ?_
        rintro e q3 ⟨rfl, k⟩
        go_wp2_with fail
        refine hK.out _ _ (hHeld.trans1 k) (fun hHeld => ?_)
        clear hK K
        try simp only [Act.put, List.setIfInBounds_toArray, List.set_cons_zero, List.set_cons_succ]
        refine take_val (v := (.bool true)) 5 (some 28) rfl (by kernel_rfl) (by kernel_rfl) (by kernel_rfl) (fun _ _ _ h => h) rfl rfl (fun w hSw => ?_) hHeld ?_
        · (go_simp; first | done | with_reducible rfl | exact wrap_m1 | exact wrap_1 | exact wrap_0 | kernel_rfl | decide +kernel)
        try simp only [Act.put, List.setIfInBounds_toArray, List.set_cons_zero, List.set_cons_succ]
        refine take_load 6 (some 29) (feC (eu a)) rfl (by kernel_rfl) (by kernel_rfl) (by kernel_rfl) (fun _ _ _ h => h) rfl rfl 23 _ rfl g5 rfl 23 _ (fun w h => F5.chg h (by simp)) Try.underlying23 rfl (by first | exact feInfo | kernel_rfl) hHeld ?_
        try simp only [Act.put, List.setIfInBounds_toArray, List.set_cons_zero, List.set_cons_succ]
        refine take_load 7 (some 30) (feC 0) rfl (by kernel_rfl) (by kernel_rfl) (by kernel_rfl) (fun _ _ _ h => h) rfl rfl 23 _ rfl z0.heap.size rfl 23 _ (fun w h => F6.chg h (by simp)) Try.underlying23 rfl (by first | exact feInfo | kernel_rfl) hHeld ?_
        try simp only [Act.put, List.setIfInBounds_toArray, List.set_cons_zero, List.set_cons_succ]
        refine take_val (v := (.bool true)) 8 (some 31) rfl (by kernel_rfl) (by kernel_rfl) (by kernel_rfl) (fun _ _ _ h => h) rfl rfl (fun w hSw => ?_) hHeld ?_
        · (go_simp; first | done | with_reducible rfl | exact wrap_m1 | exact wrap_1 | exact wrap_0 | kernel_rfl | decide +kernel)
        try simp only [Act.put, List.setIfInBounds_toArray, List.set_cons_zero, List.set_cons_succ]
        refine take_val (v := (.bool true)) 9 (some 32) rfl (by kernel_rfl) (by kernel_rfl) (by kernel_rfl) (fun _ _ _ h => h) rfl rfl (fun w hSw => ?_) hHeld ?_
        · (go_simp; first | done | with_reducible rfl | exact wrap_m1 | exact wrap_1 | exact wrap_0 | kernel_rfl | decide +kernel)
        try simp only [Act.put, List.setIfInBounds_toArray, List.set_cons_zero, List.set_cons_succ]
        refine take_val (v := (.bool true)) 10 (some 33) rfl (by kernel_rfl) (by kernel_rfl) (by kernel_rfl) (fun _ _ _ h => h) rfl rfl (fun w hSw => ?_) hHeld ?_
        · (go_simp; first | done | with_reducible rfl | exact wrap_m1 | exact wrap_1 | exact wrap_0 | kernel_rfl | decide +kernel)
        try simp only [Act.put, List.setIfInBounds_toArray, List.set_cons_zero, List.set_cons_succ]
        refine take_load 11 (some 34) (feC a) rfl (by kernel_rfl) (by kernel_rfl) (by kernel_rfl) (fun _ _ _ h => h) rfl rfl 23 _ rfl w.heap.size rfl 23 _ (fun w h => F0.chg h (by simp)) Try.underlying23 rfl (by first | exact feInfo | kernel_rfl) hHeld ?_
        try simp only [Act.put, List.setIfInBounds_toArray, List.set_cons_zero, List.set_cons_succ]
        refine take_load 12 (some 35) (feC b) rfl (by kernel_rfl) (by kernel_rfl) (by kernel_rfl) (fun _ _ _ h => h) rfl rfl 23 _ rfl (w.heap.size + 1) rfl 23 _ (fun w h => F1.chg h (by simp)) Try.underlying23 rfl (by first | exact feInfo | kernel_rfl) hHeld ?_
        try simp only [Act.put, List.setIfInBounds_toArray, List.set_cons_zero, List.set_cons_succ]
        refine take_load 15 (some 38) (feC a) rfl (by kernel_rfl) (by kernel_rfl) (by kernel_rfl) (fun _ _ _ h => h) rfl rfl 23 _ rfl w.heap.size rfl 23 _ (fun w h => F0.chg h (by simp)) Try.underlying23 rfl (by first | exact feInfo | kernel_rfl) hHeld ?_
        try simp only [Act.put, List.setIfInBounds_toArray, List.set_cons_zero, List.set_cons_succ]
        refine take_load 17 (some 40) (feC b) rfl (by kernel_rfl) (by kernel_rfl) (by kernel_rfl) (fun _ _ _ h => h) rfl rfl 23 _ rfl (w.heap.size + 1) rfl 23 _ (fun w h => F1.chg h (by simp)) Try.underlying23 rfl (by first | exact feInfo | kernel_rfl) hHeld ?_
        try simp only [Act.put, List.setIfInBounds_toArray, List.set_cons_zero, List.set_cons_succ]
        refine wpAnyH_ready (rs := [13]) (by kernel_rfl) (by simp) ?_
        refine AllReadyH.cons (o := _) rfl (fun K hK => ?_) ?_
        ·
          go_simp
          refine (Mul_q a b ra rb _).mono ?_
          rintro e q4 ⟨rfl, k⟩
          go_wp2_with fail
          refine hK.out _ _ (hHeld.trans1 k) (fun hHeld => ?_)
          clear hK K
          try simp only [Act.put, List.setIfInBounds_toArray, List.set_cons_zero, List.set_cons_succ]
          refine wpAnyH_ready (rs := [14]) (by kernel_rfl) (by simp) ?_
          refine AllReadyH.cons (o := _) rfl (fun K hK => ?_) ?_
          ·
            go_simp
            refine (Legendre_fe (ml2 a b) (r256_mod _) 0 n3.out _).mono ?_
            rintro e q5 ⟨rfl, k⟩
            go_wp2_with fail
            refine hK.out _ _ (hHeld.trans1 k) (fun hHeld => ?_)
            clear hK K
            try simp only [Act.put, List.setIfInBounds_toArray, List.set_cons_zero, List.set_cons_succ]
            refine wpAnyH_ready (rs := [16]) (by kernel_rfl) (by simp) ?_
            refine AllReadyH.cons (o := _) rfl (fun K hK => ?_) ?_
            ·
              go_simp
              refine (Legendre_fe a ra 0 n1.out _).mono ?_
              rintro e q6 ⟨rfl, k⟩
              go_wp2_with fail
              refine hK.out _ _ (hHeld.trans1 k) (fun hHeld => ?_)
              clear hK K
              try simp only [Act.put, List.setIfInBounds_toArray, List.set_cons_zero, List.set_cons_succ]
              refine wpAnyH_ready (rs := [18]) (by kernel_rfl) (by simp) ?_
              refine AllReadyH.cons (o := _) rfl (fun K hK => ?_) ?_
              ·
                go_simp
                refine (Legendre_fe b rb (-1) n2.out _).mono ?_
                rintro e q7 ⟨rfl, k⟩
                go_wp2_with fail
                refine hK.out _ _ (hHeld.trans1 k) (fun hHeld => ?_)
                clear hK K
                try simp only [Act.put, List.setIfInBounds_toArray, List.set_cons_zero, List.set_cons_succ]
                refine take_val (v := (.int .i64 0)) 19 (some 42) rfl (by kernel_rfl) (by kernel_rfl) (by kernel_rfl) (fun _ _ _ h => h) rfl rfl (fun w hSw => ?_) hHeld ?_
                · (go_simp; first | done | with_reducible rfl | exact wrap_m1 | exact wrap_1 | exact wrap_0 | kernel_rfl | decide +kernel)
                try simp only [Act.put, List.setIfInBounds_toArray, List.set_cons_zero, List.set_cons_succ]
                refine take_val (v := (.bool true)) 20 (some 43) rfl (by kernel_rfl) (by kernel_rfl) (by kernel_rfl) (fun _ _ _ h => h) rfl rfl (fun w hSw => ?_) hHeld ?_
                · (go_simp; first | done | with_reducible rfl | exact wrap_m1 | exact wrap_1 | exact wrap_0 | kernel_rfl | decide +kernel)
                try simp only [Act.put, List.setIfInBounds_toArray, List.set_cons_zero, List.set_cons_succ]
                refine take_val (v := (.bool true)) 21 (some 44) rfl (by kernel_rfl) (by kernel_rfl) (by kernel_rfl) (fun _ _ _ h => h) rfl rfl (fun w hSw => ?_) hHeld ?_
                · (go_simp; first | done | with_reducible rfl | exact wrap_m1 | exact wrap_1 | exact wrap_0 | kernel_rfl | decide +kernel)
                try simp only [Act.put, List.setIfInBounds_toArray, List.set_cons_zero, List.set_cons_succ]
                refine take_val (v := ?_) 22 (some 4) rfl (by kernel_rfl) (by kernel_rfl) (by kernel_rfl) (fun _ _ _ h => h) rfl rfl (fun w hSw => ?_) hHeld ?_
                rotate_left
                · (go_simp; first | done | with_reducible rfl | exact wrap_m1 | exact wrap_1 | exact wrap_0 | kernel_rfl | decide +kernel)
                try simp only [Act.put, List.setIfInBounds_toArray, List.set_cons_zero, List.set_cons_succ]
                refine wpAnyH_done (by kernel_rfl) ?_ _
                go_wp2
                go_ret
                exact ⟨rfl, CC.trans1 hHeld⟩
              exact AllReadyH.nil
            exact AllReadyH.nil
          exact AllReadyH.nil
        exact AllReadyH.nil
      exact AllReadyH.nil
    exact AllReadyH.nil
  exact AllReadyH.nil

set_option maxHeartbeats 16000000 in
set_option maxRecDepth 100000 in
theorem fermat_zz (a b : Int) (ra : R256 a) (rb : R256 b) (n1 : Hid (0 = leg a)) (n2 : Hid (0 = leg b)) (n3 : Hid (0 = leg (ml2 a b))) (n4 : Hid (eqf (fm a % P) (a % P) = true)) (n5 : eqf (eu a) 0 = true) (w : World) :
    Calls Try.prog 4 #[fe a, fe b] w fun e w' => e = .returned (.bool true) ∧ Chg w w' [] := by
  have hge := feGuard
  have F0 : Blk ((w.alloc (.cells (feC a) 23)).alloc (.cells (feC b) 23)) w.heap.size (feC a) 23 := (Blk.new w (feC a) 23).alloc _
  have F1 : Blk ((w.alloc (.cells (feC a) 23)).alloc (.cells (feC b) 23)) (w.heap.size + 1) (feC b) 23 := by have h := Blk.new (w.alloc (.cells (feC a) 23)) (feC b) 23; simpa using h
  have CC : Chg w ((w.alloc (.cells (feC a) 23)).alloc (.cells (feC b) 23)) [] := ((Chg.refl w []).alloc (.cells (feC a) 23)).alloc (.cells (feC b) 23)
  go_enter Try.func4, Try.ntmps4
  go_wp2_with fail
  refine (alive_true _).mono ?_
  rintro e y1 ⟨rfl, k⟩
  replace F0 := F0.chg k (by simp)
  replace F1 := F1.chg k (by simp)
  replace CC := CC.trans1 k
  clear k
  go_wp2_with fail
  refine region_cut (fun a' w' => ∃ g5 gp gh : Nat, a' = ⟨#[fe a, fe b, .pointer (some ⟨w.heap.size, 0, none⟩), .pointer (some ⟨(w.heap.size + 1), 0, none⟩), .bool false, .pointer (some ⟨g5, 0, none⟩), undef, .bool true, .bool false, .agg (feC a), .slice (some ⟨gp, 0, none⟩) 32 32, .slice (some ⟨gh, 0, none⟩) 32 32, fe (eu a), undef, undef, undef, undef, undef, undef, undef, undef, undef, undef, undef, undef, undef, undef, undef, undef, undef, undef, undef, undef, undef, undef, undef, undef, undef, undef, undef, undef, undef, undef, undef, undef], []⟩ ∧ y1.heap.size ≤ g5 ∧ Blk w' g5 (feC (eu a)) 23 ∧ Chg y1 w' []) ?_ ?_
  ·
    refine wp_region_held_drew (S := fun w' => Chg y1 w' []) (by kernel_rfl) ((Chg.refl y1 []).drew) (fun hHeld => ?_)
    refine take_load 0 (some 9) (feC a) rfl (by kernel_rfl) (by kernel_rfl) (by kernel_rfl) (fun _ _ _ h => h) rfl rfl 23 _ rfl w.heap.size rfl 23 _ (fun w h => F0.chg h (by simp)) Try.underlying23 rfl feInfo hHeld ?_
    try simp only [Act.put, List.setIfInBounds_toArray, List.set_cons_zero, List.set_cons_succ]
    refine wpAnyH_ready (rs := [1, 4]) (by kernel_rfl) (by simp) ?_
    refine AllReadyH.cons (o := _) rfl (fun K hK => ?_) ?_
    ·
      go_simp
      refine (prime_p 1 (by decide) (by decide) _).mono ?_
      rintro e x1 ⟨gp, rfl, hp, k⟩
      go_wp2_with fail
      refine hK.out _ _ (hHeld.trans1 k) (fun hHeld => ?_)
      clear k
      clear hK K
      try simp only [Act.put, List.setIfInBounds_toArray, List.set_cons_zero, List.set_cons_succ]
      refine wpAnyH_ready (rs := [2, 4]) (by kernel_rfl) (by simp) ?_
      refine AllReadyH.cons (o := _) rfl (fun K hK => ?_) ?_
      ·
        go_simp
        refine (halved_p gp _ hp).mono ?_
        rintro e x2 ⟨gh, rfl, hh, k⟩
        go_wp2_with fail
        refine hK.out _ _ (hHeld.trans1 k) (fun hHeld => ?_)
        clear k
        clear hK K
        try simp only [Act.put, List.setIfInBounds_toArray, List.set_cons_zero, List.set_cons_succ]
        refine wpAnyH_ready (rs := [3, 4]) (by kernel_rfl) (by simp) ?_
        refine AllReadyH.cons (o := _) rfl (fun K hK => ?_) ?_
        ·
          go_simp
          refine (power_half a ra gh _ hh).mono ?_
          rintro e x3 ⟨rfl, k⟩
          go_wp2_with fail
          refine hK.out _ _ (hHeld.trans1 k) (fun hHeld => ?_)
          clear k
          clear hK K
          try simp only [Act.put, List.setIfInBounds_toArray, List.set_cons_zero, List.set_cons_succ]
          refine wpAnyH_ready (rs := [4]) (by kernel_rfl) (by simp) ?_
          refine AllReadyH.cons (o := _) rfl (fun K hK => ?_) ?_
          ·
            go_simp
            have b7 : y1.heap.size ≤ x3.heap.size := by have h := hHeld.size; simpa using h
            have c7 : Blk (x3.alloc (.cells z32 23)) (x3.heap.size) z32 23 := by have h := Blk.new x3 z32 23; simpa using h
            refine hK.out _ _ (hHeld.alloc _) (fun hHeld => ?_)
            replace hh := hh.alloc (.cells z32 23)
            clear hK K
            try simp only [Act.put, List.setIfInBounds_toArray, List.set_cons_zero, List.set_cons_succ]
            refine wpAnyH_ready (rs := [5]) (by kernel_rfl) (by simp) ?_
            refine AllReadyH.cons (o := _) rfl (fun K hK => ?_) ?_
            ·
              rw [if_pos (by rfl)]
              refine wp_store_row 23 _ _ rfl (x3.heap.size) _ rfl rfl 23 _ c7 feInfo rfl (feC_one _) ?_
              refine hK.out _ _ (hHeld.setRowNew b7 _) (fun hHeld => ?_)
              replace c7 := c7.setRow (feC (eu a))
              clear hK K
              try simp only [Act.put, List.setIfInBounds_toArray, List.set_cons_zero, List.set_cons_succ]
              refine wpAnyH_done (by kernel_rfl) ?_ _
              exact ⟨(x3.heap.size), gp, gh, rfl, b7, c7, hHeld⟩
            exact AllReadyH.nil
          exact AllReadyH.nil
        refine AllReadyH.cons (o := _) rfl (fun K hK => ?_) ?_
        ·
          go_simp
          have b7 : y1.heap.size ≤ x2.heap.size := by have h := hHeld.size; simpa using h
          have c7 : Blk (x2.alloc (.cells z32 23)) (x2.heap.size) z32 23 := by have h := Blk.new x2 z32 23; simpa using h
          refine hK.out _ _ (hHeld.alloc _) (fun hHeld => ?_)
          replace hh := hh.alloc (.cells z32 23)
          clear hK K
          try simp only [Act.put, List.setIfInBounds_toArray, List.set_cons_zero, List.set_cons_succ]
          refine wpAnyH_ready (rs := [3]) (by kernel_rfl) (by simp) ?_
          refine AllReadyH.cons (o := _) rfl (fun K hK => ?_) ?_
          ·
            go_simp
            refine (power_half a ra gh _ hh).mono ?_
            rintro e x4 ⟨rfl, k⟩
            go_wp2_with fail
            refine hK.out _ _ (hHeld.trans1 k) (fun hHeld => ?_)
            replace c7 := c7.chg k (by simp)
            clear k
            clear hK K
            try simp only [Act.put, List.setIfInBounds_toArray, List.set_cons_zero, List.set_cons_succ]
            refine wpAnyH_ready (rs := [5]) (by kernel_rfl) (by simp) ?_
            refine AllReadyH.cons (o := _) rfl (fun K hK => ?_) ?_
            ·
              rw [if_pos (by rfl)]
              refine wp_store_row 23 _ _ rfl (x2.heap.size) _ rfl rfl 23 _ c7 feInfo rfl (feC_one _) ?_
              refine hK.out _ _ (hHeld.setRowNew b7 _) (fun hHeld => ?_)
              replace c7 := c7.setRow (feC (eu a))
              clear hK K
              try simp only [Act.put, List.setIfInBounds_toArray, List.set_cons_zero, List.set_cons_succ]
              refine wpAnyH_done (by kernel_rfl) ?_ _
              exact ⟨(x2.heap.size), gp, gh, rfl, b7, c7, hHeld⟩
            exact AllReadyH.nil
          exact AllReadyH.nil
        exact AllReadyH.nil
      refine AllReadyH.cons (o := _) rfl (fun K hK => ?_) ?_
      ·
        go_simp
        have b7 : y1.heap.size ≤ x1.heap.size := by have h := hHeld.size; simpa using h
        have c7 : Blk (x1.alloc (.cells z32 23)) (x1.heap.size) z32 23 := by have h := Blk.new x1 z32 23; simpa using h
        refine hK.out _ _ (hHeld.alloc _) (fun hHeld => ?_)
        replace hp := hp.alloc (.cells z32 23)
        clear hK K
        try simp only [Act.put, List.setIfInBounds_toArray, List.set_cons_zero, List.set_cons_succ]
        refine wpAnyH_ready (rs := [2]) (by kernel_rfl) (by simp) ?_
        refine AllReadyH.cons (o := _) rfl (fun K hK => ?_) ?_
        ·
          go_simp
          refine (halved_p gp _ hp).mono ?_
          rintro e x5 ⟨gh, rfl, hh, k⟩
          go_wp2_with fail
          refine hK.out _ _ (hHeld.trans1 k) (fun hHeld => ?_)
          replace c7 := c7.chg k (by simp)
          clear k
          clear hK K
          try simp only [Act.put, List.setIfInBounds_toArray, List.set_cons_zero, List.set_cons_succ]
          refine wpAnyH_ready (rs := [3]) (by kernel_rfl) (by simp) ?_
          refine AllReadyH.cons (o := _) rfl (fun K hK => ?_) ?_
          ·
            go_simp
            refine (power_half a ra gh _ hh).mono ?_
            rintro e x6 ⟨rfl, k⟩
            go_wp2_with fail
            refine hK.out _ _ (hHeld.trans1 k) (fun hHeld => ?_)
            replace c7 := c7.chg k (by simp)
            clear k
            clear hK K
            try simp only [Act.put, List.setIfInBounds_toArray, List.set_cons_zero, List.set_cons_succ]
            refine wpAnyH_ready (rs := [5]) (by kernel_rfl) (by simp) ?_
            refine AllReadyH.cons (o := _) rfl (fun K hK => ?_) ?_
            ·
              rw [if_pos (by rfl)]
              refine wp_store_row 23 _ _ rfl (x1.heap.size) _ rfl rfl 23 _ c7 feInfo rfl (feC_one _) ?_
              refine hK.out _ _ (hHeld.setRowNew b7 _) (fun hHeld => ?_)
              replace c7 := c7.setRow (feC (eu a))
              clear hK K
              try simp only [Act.put, List.setIfInBounds_toArray, List.set_cons_zero, List.set_cons_succ]
              refine wpAnyH_done (by kernel_rfl) ?_ _
              exact ⟨(x1.heap.size), gp, gh, rfl, b7, c7, hHeld⟩
            exact AllReadyH.nil
          exact AllReadyH.nil
        exact AllReadyH.nil
      exact AllReadyH.nil
    refine AllReadyH.cons (o := _) rfl (fun K hK => ?_) ?_
    ·
      go_simp
      have b7 : y1.heap.size ≤ y1.heap.size := by have h := hHeld.size; simpa using h
      have c7 : Blk (y1.drew.alloc (.cells z32 23)) (y1.heap.size) z32 23 := by have h := Blk.new y1.drew z32 23; simpa using h
      refine hK.out _ _ (hHeld.alloc _) (fun hHeld => ?_)
      clear hK K
      try simp only [Act.put, List.setIfInBounds_toArray, List.set_cons_zero, List.set_cons_succ]
      refine wpAnyH_ready (rs := [1]) (by kernel_rfl) (by simp) ?_
      refine AllReadyH.cons (o := _) rfl (fun K hK => ?_) ?_
      ·
        go_simp
        refine (prime_p 1 (by decide) (by decide) _).mono ?_
        rintro e x7 ⟨gp, rfl, hp, k⟩
        go_wp2_with fail
        refine hK.out _ _ (hHeld.trans1 k) (fun hHeld => ?_)
        replace c7 := c7.chg k (by simp)
        clear k
        clear hK K
        try simp only [Act.put, List.setIfInBounds_toArray, List.set_cons_zero, List.set_cons_succ]
        refine wpAnyH_ready (rs := [2]) (by kernel_rfl) (by simp) ?_
        refine AllReadyH.cons (o := _) rfl (fun K hK => ?_) ?_
        ·
          go_simp
          refine (halved_p gp _ hp).mono ?_
          rintro e x8 ⟨gh, rfl, hh, k⟩
          go_wp2_with fail
          refine hK.out _ _ (hHeld.trans1 k) (fun hHeld => ?_)
          replace c7 := c7.chg k (by simp)
          clear k
          clear hK K
          try simp only [Act.put, List.setIfInBounds_toArray, List.set_cons_zero, List.set_cons_succ]
          refine wpAnyH_ready (rs := [3]) (by kernel_rfl) (by simp) ?_
          refine AllReadyH.cons (o := _) rfl (fun K hK => ?_) ?_
          ·
            go_simp
            refine (power_half a ra gh _ hh).mono ?_
            rintro e x9 ⟨rfl, k⟩
            go_wp2_with fail
            refine hK.out _ _ (hHeld.trans1 k) (fun hHeld => ?_)
            replace c7 := c7.chg k (by simp)
            clear k
            clear hK K
            try simp only [Act.put, List.setIfInBounds_toArray, List.set_cons_zero, List.set_cons_succ]
            refine wpAnyH_ready (rs := [5]) (by kernel_rfl) (by simp) ?_
            refine AllReadyH.cons (o := _) rfl (fun K hK => ?_) ?_
            ·
              rw [if_pos (by rfl)]
              refine wp_store_row 23 _ _ rfl (y1.heap.size) _ rfl rfl 23 _ c7 feInfo rfl (feC_one _) ?_
              refine hK.out _ _ (hHeld.setRowNew b7 _) (fun hHeld => ?_)
              replace c7 := c7.setRow (feC (eu a))
              clear hK K
              try simp only [Act.put, List.setIfInBounds_toArray, List.set_cons_zero, List.set_cons_succ]
              refine wpAnyH_done (by kernel_rfl) ?_ _
              exact ⟨(y1.heap.size), gp, gh, rfl, b7, c7, hHeld⟩
            exact AllReadyH.nil
          exact AllReadyH.nil
        exact AllReadyH.nil
      exact AllReadyH.nil
    exact AllReadyH.nil
  rintro a' z0 ⟨g5, gp, gh, rfl, b5, F5, k⟩
  have sa : w.heap.size + 1 < y1.heap.size := F1.lt
  replace F0 := F0.chg k (by simp)
  replace F1 := F1.chg k (by simp)
  replace CC := CC.trans1 k
  clear k
  have sz : g5 < z0.heap.size := F5.lt
  have sy : w.heap.size + 1 < z0.heap.size := F1.lt
  have A6 : Blk (z0.alloc (.cells z32 23)) z0.heap.size z32 23 := Blk.new z0 z32 23
  replace F0 : Blk ((z0.alloc (.cells z32 23)).setRow z0.heap.size (feC 0)) w.heap.size (feC a) 23 := (F0.alloc _).setRowOther (by omega) _
  replace F1 : Blk ((z0.alloc (.cells z32 23)).setRow z0.heap.size (feC 0)) (w.heap.size + 1) (feC b) 23 := (F1.alloc _).setRowOther (by omega) _
  replace F5 : Blk ((z0.alloc (.cells z32 23)).setRow z0.heap.size (feC 0)) g5 (feC (eu a)) 23 := (F5.alloc _).setRowOther (by omega) _
  have F6 : Blk ((z0.alloc (.cells z32 23)).setRow z0.heap.size (feC 0)) z0.heap.size (feC 0) 23 := A6.setRow _
  have lo6 : w.heap.size ≤ z0.heap.size := by omega
  replace CC : Chg w ((z0.alloc (.cells z32 23)).setRow z0.heap.size (feC 0)) [] := (CC.alloc (.cells z32 23)).setRowNew lo6 _
  go_wp2_with (first | (refine wpList_store_row rfl 23 _ _ rfl z0.heap.size _ rfl rfl 23 _ A6 feInfo rfl (feC_one _) ?_) | (refine gl_load (by rfl) 23 _ rfl w.heap.size rfl 23 (feC a) _ F0 Try.underlying23 rfl feInfo ?_) | (refine gl_build (by rfl) 23 #[] rfl (feC 0) (by kernel_rfl) ?_))
  clear A6
  refine (Legendre_fe a ra 0 n1.out _).mono ?_
  rintro e y2 ⟨rfl, k⟩
  replace F0 := F0.chg k (by simp)
  replace F1 := F1.chg k (by simp)
  replace F5 := F5.chg k (by simp)
  replace F6 := F6.chg k (by simp)
  replace CC := CC.trans1 k
  clear k
  go_wp2_with fail
  refine wp_region_held_drew (S := fun w' => Chg y2 w' []) (by kernel_rfl) ((Chg.refl y2 []).drew) (fun hHeld => ?_)
  refine take_load 0 (some 23) (feC a) rfl (by kernel_rfl) (by kernel_rfl) (by kernel_rfl) (fun _ _ _ h => h) rfl rfl 23 _ rfl w.heap.size rfl 23 _ (fun w h => F0.chg h (by simp)) Try.underlying23 rfl (by first | exact feInfo | kernel_rfl) hHeld ?_
  try simp only [Act.put, List.setIfInBounds_toArray, List.set_cons_zero, List.set_cons_succ]
  refine take_load 3 (some 26) (feC a) rfl (by kernel_rfl) (by kernel_rfl) (by kernel_rfl) (fun _ _ _ h => h) rfl rfl 23 _ rfl w.heap.size rfl 23 _ (fun w h => F0.chg h (by simp)) Try.underlying23 rfl (by first | exact feInfo | kernel_rfl) hHeld ?_
  try simp only [Act.put, List.setIfInBounds_toArray, List.set_cons_zero, List.set_cons_succ]
  refine wpAnyH_ready (rs := [1]) (by kernel_rfl) (by simp) ?_
  refine AllReadyH.cons (o := _) rfl (fun K hK => ?_) ?_
  ·
    go_simp
    refine (prime_p 0 (by decide) (by decide) _).mono ?_
    rintro e q1 ⟨gq, rfl, hq, k⟩
    go_wp2_with fail
    refine hK.out _ _ (hHeld.trans1 k) (fun hHeld => ?_)
    clear hK K
    try simp only [Act.put, List.setIfInBounds_toArray, List.set_cons_zero, List.set_cons_succ]
    refine wpAnyH_ready (rs := [2]) (by kernel_rfl) (by simp) ?_
    refine AllReadyH.cons (o := _) rfl (fun K hK => ?_) ?_
    ·
      go_simp
      refine (power_full a ra gq _ hq).mono ?_
      rintro e q2 ⟨rfl, k⟩
      go_wp2_with fail
      refine hK.out _ _ (hHeld.trans1 k) (fun hHeld => ?_)
      clear hK K
      try simp only [Act.put, List.setIfInBounds_toArray, List.set_cons_zero, List.set_cons_succ]
      refine wpAnyH_ready (rs := [4]) (by kernel_rfl) (by simp) ?_
      refine AllReadyH.cons (o := _) rfl (fun K hK => ?_) ?_
      ·
        go_simp
        refine (Equal_q (fm a) a (r256_fm a) ra true n4.out _).mono ?_
        rintro e q3 ⟨rfl, k⟩
        go_wp2_with fail
        refine hK.out _ _ (hHeld.trans1 k) (fun hHeld => ?_)
        clear hK K
        try simp only [Act.put, List.setIfInBounds_toArray, List.set_cons_zero, List.set_cons_succ]
        refine take_val (v := (.bool true)) 5 (some 28) rfl (by kernel_rfl) (by kernel_rfl) (by kernel_rfl) (fun _ _ _ h => h) rfl rfl (fun w hSw => ?_) hHeld ?_
        · (go_simp; first | done | with_reducible rfl | exact wrap_m1 | exact wrap_1 | exact wrap_0 | kernel_rfl | decide +kernel)
        try simp only [Act.put, List.setIfInBounds_toArray, List.set_cons_zero, List.set_cons_succ]
        refine take_load 6 (some 29) (feC (eu a)) rfl (by kernel_rfl) (by kernel_rfl) (by kernel_rfl) (fun _ _ _ h => h) rfl rfl 23 _ rfl g5 rfl 23 _ (fun w h => F5.chg h (by simp)) Try.underlying23 rfl (by first | exact feInfo | kernel_rfl) hHeld ?_
        try simp only [Act.put, List.setIfInBounds_toArray, List.set_cons_zero, List.set_cons_succ]
        refine take_load 7 (some 30) (feC 0) rfl (by kernel_rfl) (by kernel_rfl) (by kernel_rfl) (fun _ _ _ h => h) rfl rfl 23 _ rfl z0.heap.size rfl 23 _ (fun w h => F6.chg h (by simp)) Try.underlying23 rfl (by first | exact feInfo | kernel_rfl) hHeld ?_
        try simp only [Act.put, List.setIfInBounds_toArray, List.set_cons_zero, List.set_cons_succ]
        refine take_val (v := (.bool true)) 8 (some 31) rfl (by kernel_rfl) (by kernel_rfl) (by kernel_rfl) (fun _ _ _ h => h) rfl rfl (fun w hSw => ?_) hHeld ?_
        · (go_simp; first | done | with_reducible rfl | exact wrap_m1 | exact wrap_1 | exact wrap_0 | kernel_rfl | decide +kernel)
        try simp only [Act.put, List.setIfInBounds_toArray, List.set_cons_zero, List.set_cons_succ]
        refine take_val (v := (.bool true)) 9 (some 32) rfl (by kernel_rfl) (by kernel_rfl) (by kernel_rfl) (fun _ _ _ h => h) rfl rfl (fun w hSw => ?_) hHeld ?_
        · (go_simp; first | done | with_reducible rfl | exact wrap_m1 | exact wrap_1 | exact wrap_0 | kernel_rfl | decide +kernel)
        try simp only [Act.put, List.setIfInBounds_toArray, List.set_cons_zero, List.set_cons_succ]
        refine take_val (v := (.bool true)) 10 (some 33) rfl (by kernel_rfl) (by kernel_rfl) (by kernel_rfl) (fun _ _ _ h => h) rfl rfl (fun w hSw => ?_) hHeld ?_
        · (go_simp; first | done | with_reducible rfl | exact wrap_m1 | exact wrap_1 | exact wrap_0 | kernel_rfl | decide +kernel)
        try simp only [Act.put, List.setIfInBounds_toArray, List.set_cons_zero, List.set_cons_succ]
        refine take_load 11 (some 34) (feC a) rfl (by kernel_rfl) (by kernel_rfl) (by kernel_rfl) (fun _ _ _ h => h) rfl rfl 23 _ rfl w.heap.size rfl 23 _ (fun w h => F0.chg h (by simp)) Try.underlying23 rfl (by first | exact feInfo | kernel_rfl) hHeld ?_
        try simp only [Act.put, List.setIfInBounds_toArray, List.set_cons_zero, List.set_cons_succ]
        refine take_load 12 (some 35) (feC b) rfl (by kernel_rfl) (by kernel_rfl) (by kernel_rfl) (fun _ _ _ h => h) rfl rfl 23 _ rfl (w.heap.size + 1) rfl 23 _ (fun w h => F1.chg h (by simp)) Try.underlying23 rfl (by first | exact feInfo | kernel_rfl) hHeld ?_
        try simp only [Act.put, List.setIfInBounds_toArray, List.set_cons_zero, List.set_cons_succ]
        refine take_load 15 (some 38) (feC a) rfl (by kernel_rfl) (by kernel_rfl) (by kernel_rfl) (fun _ _ _ h => h) rfl rfl 23 _ rfl w.heap.size rfl 23 _ (fun w h => F0.chg h (by simp)) Try.underlying23 rfl (by first | exact feInfo | kernel_rfl) hHeld ?_
        try simp only [Act.put, List.setIfInBounds_toArray, List.set_cons_zero, List.set_cons_succ]
        refine take_load 17 (some 40) (feC b) rfl (by kernel_rfl) (by kernel_rfl) (by kernel_rfl) (fun _ _ _ h => h) rfl rfl 23 _ rfl (w.heap.size + 1) rfl 23 _ (fun w h => F1.chg h (by simp)) Try.underlying23 rfl (by first | exact feInfo | kernel_rfl) hHeld ?_
        try simp only [Act.put, List.setIfInBounds_toArray, List.set_cons_zero, List.set_cons_succ]
        refine wpAnyH_ready (rs := [13]) (by kernel_rfl) (by simp) ?_
        refine AllReadyH.cons (o := _) rfl (fun K hK => ?_) ?_
        ·
          go_simp
          refine (Mul_q a b ra rb _).mono ?_
          rintro e q4 ⟨rfl, k⟩
          go_wp2_with fail
          refine hK.out _ _ (hHeld.trans1 k) (fun hHeld => ?_)
          clear hK K
          try simp only [Act.put, List.setIfInBounds_toArray, List.set_cons_zero, List.set_cons_succ]
          refine wpAnyH_ready (rs := [14]) (by kernel_rfl) (by simp) ?_
          refine AllReadyH.cons (o := _) rfl (fun K hK => ?_) ?_
          ·
            go_simp
            refine (Legendre_fe (ml2 a b) (r256_mod _) 0 n3.out _).mono ?_
            rintro e q5 ⟨rfl, k⟩
            go_wp2_with fail
            refine hK.out _ _ (hHeld.trans1 k) (fun hHeld => ?_)
            clear hK K
            try simp only [Act.put, List.setIfInBounds_toArray, List.set_cons_zero, List.set_cons_succ]
            refine wpAnyH_ready (rs := [16]) (by kernel_rfl) (by simp) ?_
            refine AllReadyH.cons (o := _) rfl (fun K hK => ?_) ?_
            ·
              go_simp
              refine (Legendre_fe a ra 0 n1.out _).mono ?_
              rintro e q6 ⟨rfl, k⟩
              go_wp2_with fail
              refine hK.out _ _ (hHeld.trans1 k) (fun hHeld => ?_)
              clear hK K
              try simp only [Act.put, List.setIfInBounds_toArray, List.set_cons_zero, List.set_cons_succ]
              refine wpAnyH_ready (rs := [18]) (by kernel_rfl) (by simp) ?_
              refine AllReadyH.cons (o := _) rfl (fun K hK => ?_) ?_
              ·
                go_simp
                refine (Legendre_fe b rb 0 n2.out _).mono ?_
                rintro e q7 ⟨rfl, k⟩
                go_wp2_with fail
                refine hK.out _ _ (hHeld.trans1 k) (fun hHeld => ?_)
                clear hK K
                try simp only [Act.put, List.setIfInBounds_toArray, List.set_cons_zero, List.set_cons_succ]
                refine take_val (v := (.int .i64 0)) 19 (some 42) rfl (by kernel_rfl) (by kernel_rfl) (by kernel_rfl) (fun _ _ _ h => h) rfl rfl (fun w hSw => ?_) hHeld ?_
                · (go_simp; first | done | with_reducible rfl | exact wrap_m1 | exact wrap_1 | exact wrap_0 | kernel_rfl | decide +kernel)
                try simp only [Act.put, List.setIfInBounds_toArray, List.set_cons_zero, List.set_cons_succ]
                refine take_val (v := (.bool true)) 20 (some 43) rfl (by kernel_rfl) (by kernel_rfl) (by kernel_rfl) (fun _ _ _ h => h) rfl rfl (fun w hSw => ?_) hHeld ?_
                · (go_simp; first | done | with_reducible rfl | exact wrap_m1 | exact wrap_1 | exact wrap_0 | kernel_rfl | decide +kernel)
                try simp only [Act.put, List.setIfInBounds_toArray, List.set_cons_zero, List.set_cons_succ]
                refine take_val (v := (.bool true)) 21 (some 44) rfl (by kernel_rfl) (by kernel_rfl) (by kernel_rfl) (fun _ _ _ h => h) rfl rfl (fun w hSw => ?_) hHeld ?_
                · (go_simp; first | done | with_reducible rfl | exact wrap_m1 | exact wrap_1 | exact wrap_0 | kernel_rfl | decide +kernel)
                try simp only [Act.put, List.setIfInBounds_toArray, List.set_cons_zero, List.set_cons_succ]
                refine take_val (v := ?_) 22 (some 4) rfl (by kernel_rfl) (by kernel_rfl) (by kernel_rfl) (fun _ _ _ h => h) rfl rfl (fun w hSw => ?_) hHeld ?_
                rotate_left
                · (go_simp; first | done | with_reducible rfl | exact wrap_m1 | exact wrap_1 | exact wrap_0 | kernel_rfl | decide +kernel)
                try simp only [Act.put, List.setIfInBounds_toArray, List.set_cons_zero, List.set_cons_succ]
                refine wpAnyH_done (by kernel_rfl) ?_ _
                go_wp2
                go_ret
                exact ⟨rfl, CC.trans1 hHeld⟩
              exact AllReadyH.nil
            exact AllReadyH.nil
          exact AllReadyH.nil
        exact AllReadyH.nil
      exact AllReadyH.nil
    exact AllReadyH.nil
  exact AllReadyH.nil
end Go.Proofs.Ytialljmkkichiab
