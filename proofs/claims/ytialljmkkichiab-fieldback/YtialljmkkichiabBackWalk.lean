/- FieldBack: the walk, in each of its two cases. -/
import Derived.Test.YtialljmkkichiabFun7
import Derived.Test.YtialljmkkichiabAlive
set_option linter.unusedVariables false
set_option linter.unusedSimpArgs false
set_option linter.unnecessarySimpa false
namespace Go.Proofs.Ytialljmkkichiab
open Go.RowKit N

/-! The calls, with their answers under names. -/
theorem Join_n (l0 l1 l2 l3 l4 n : Int) (h0 : Wo l0) (h1 : Wo l1) (h2 : Wo l2) (h3 : Wo l3) (h4 : Wo l4) (h : V l0 l1 l2 l3 l4 % P = n) (w : World) :
    Calls Try.prog 29 #[.agg (lc l0 l1 l2 l3 l4)] w fun e w' => e = .returned (fe n) ∧ Chg w w' [] := by
  rw [← h]
  exact Join_fe l0 l1 l2 l3 l4 h0 h1 h2 h3 h4 w
theorem Equal_b (a b : Int) (ra : R256 a) (rb : R256 b) (t : Bool) (h : eqf (a % P) (b % P) = t) (w : World) :
    Calls Try.prog 15 #[fe a, fe b] w fun e w' => e = .returned (.bool t) ∧ Chg w w' [] := by
  rw [← h]
  exact Equal_fe a b ra rb w
theorem Canon_b (a : Int) (ra : R256 a) (t : Bool) (h : eqf a (a % P) = t) (w : World) :
    Calls Try.prog 23 #[fe a] w fun e w' => e = .returned (.bool t) ∧ Chg w w' [] := by
  rw [← h]
  exact Canonical_fe a ra w
theorem Reduce_n (g : Nat) (a n : Int) (ra : R256 a) (h : a % P = n) (T : TypeId) (w : World) (hb : Blk w g (feC a) T) :
    Calls Try.prog 27 #[.slice (some ⟨g, 0, none⟩) 32 32] w fun e w' => e = .returned (fe n) ∧ Chg w w' [] := by
  rw [← h]
  exact Reduce_arr g a ra T w hb
theorem Decode_yes (g : Nat) (a : Int) (ra : R256 a) (ht : eqf a (a % P) = true) (T : TypeId) (w : World) (h : Blk w g (feC a) T) :
    Calls Try.prog 28 #[.slice (some ⟨g, 0, none⟩) 32 32] w fun e w' => e = .returned (.tuple #[fe a, .int .i64 0]) ∧ Chg w w' [] := Decode_arr g a ra true ht T w h
theorem Decode_no (g : Nat) (a : Int) (ra : R256 a) (ht : eqf a (a % P) = false) (T : TypeId) (w : World) (h : Blk w g (feC a) T) :
    Calls Try.prog 28 #[.slice (some ⟨g, 0, none⟩) 32 32] w fun e w' => e = .returned (.tuple #[fe 0, .int .i64 11]) ∧ Chg w w' [] := Decode_arr g a ra false ht T w h
theorem num_0 (w : World) : Calls Try.prog 30 #[.int .i64 0] w fun e w' => e = .returned (.int .i64 0) ∧ Chg w w' [] := by
  go_enter Try.func30, Try.ntmps30
  go_wp2
  go_ret
  exact ⟨rfl, Chg.refl w []⟩
theorem num_11 (w : World) : Calls Try.prog 30 #[.int .i64 11] w fun e w' => e = .returned (.int .i64 11) ∧ Chg w w' [] := by
  go_enter Try.func30, Try.ntmps30
  go_wp2
  go_ret
  exact ⟨rfl, Chg.refl w []⟩
theorem limInfo (l0 l1 l2 l3 l4 : Int) : (Try.prog.info? 41).map (·.size) = some (lc l0 l1 l2 l3 l4).size := by kernel_rfl
theorem Li.wo {x : Int} (h : Li x) : Wo x := ⟨h.1, by have := h.2; omega⟩

set_option maxHeartbeats 16000000 in
set_option maxRecDepth 100000 in
theorem back_yes (a c l0 l1 l2 l3 l4 j r : Int) (bv : Value) (ra : R256 a) (rl : Hid (Wo l0 ∧ Wo l1 ∧ Wo l2 ∧ Wo l3 ∧ Wo l4)) (hca : Hid (a % P = c)) (rca : R256 c) (hcc : Hid (eqf (c % P) (a % P) = true))
    (hj : Hid (V l0 l1 l2 l3 l4 % P = j)) (rj : R256 j) (hjj : Hid (j % P = j)) (rr : R256 r) (hr : Hid (eqf r (r % P) = true)) (hc : Hid (eqf a (a % P) = true)) (he : Hid (a % P = a)) (w : World)
    (hb : ∀ w', Chg w w' [] → Calls Try.prog 27 #[bv] w' fun e w'' => e = .returned (fe r) ∧ Chg w' w'' []) :
    Calls Try.prog 6 #[fe a, .agg (lc l0 l1 l2 l3 l4), bv] w fun e w' => e = .returned (.bool true) ∧ Chg w w' [] := by
  have hge := feGuard
  have F0 : Blk ((w.alloc (.cells (feC a) 23)).alloc (.cells (lc l0 l1 l2 l3 l4) 41)) w.heap.size (feC a) 23 := (Blk.new w (feC a) 23).alloc _
  have F1 : Blk ((w.alloc (.cells (feC a) 23)).alloc (.cells (lc l0 l1 l2 l3 l4) 41)) (w.heap.size + 1) (lc l0 l1 l2 l3 l4) 41 := by have h := Blk.new (w.alloc (.cells (feC a) 23)) (lc l0 l1 l2 l3 l4) 41; simpa using h
  have CC : Chg w ((w.alloc (.cells (feC a) 23)).alloc (.cells (lc l0 l1 l2 l3 l4) 41)) [] := ((Chg.refl w []).alloc (.cells (feC a) 23)).alloc (.cells (lc l0 l1 l2 l3 l4) 41)
  go_enter Try.func6, Try.ntmps6
  go_wp2_with fail
  refine (alive_true _).mono ?_
  rintro e y1 ⟨rfl, k⟩
  replace F0 := F0.chg k (by simp)
  replace F1 := F1.chg k (by simp)
  replace CC := CC.trans1 k
  clear k
  go_wp2_with (first | (refine gl_load (by rfl) 23 _ rfl w.heap.size rfl 23 (feC a) _ F0 Try.underlying23 rfl feInfo ?_))
  refine (Split_fe a ra _).mono ?_
  rintro e y2 ⟨⟨m0, m1, m2, m3, m4, rfl, ⟨b0, b1, b2, b3, b4⟩, hm⟩, k⟩
  replace F0 := F0.chg k (by simp)
  replace F1 := F1.chg k (by simp)
  replace CC := CC.trans1 k
  clear k
  have hmc : Hid (V m0 m1 m2 m3 m4 % P = c) := by rw [hm, Int.emod_emod_of_dvd _ (Int.dvd_refl P)]; exact hca
  clear hm
  have sz : w.heap.size + 1 < y2.heap.size := F1.lt
  have A7 : Blk (y2.alloc (.cells (lc 0 0 0 0 0) 41)) y2.heap.size (lc 0 0 0 0 0) 41 := Blk.new y2 (lc 0 0 0 0 0) 41
  replace F0 : Blk ((y2.alloc (.cells (lc 0 0 0 0 0) 41)).setRow y2.heap.size (lc m0 m1 m2 m3 m4)) w.heap.size (feC a) 23 := (F0.alloc _).setRowOther (by omega) _
  replace F1 : Blk ((y2.alloc (.cells (lc 0 0 0 0 0) 41)).setRow y2.heap.size (lc m0 m1 m2 m3 m4)) (w.heap.size + 1) (lc l0 l1 l2 l3 l4) 41 := (F1.alloc _).setRowOther (by omega) _
  have F7 : Blk ((y2.alloc (.cells (lc 0 0 0 0 0) 41)).setRow y2.heap.size (lc m0 m1 m2 m3 m4)) y2.heap.size (lc m0 m1 m2 m3 m4) 41 := A7.setRow _
  replace CC : Chg w ((y2.alloc (.cells (lc 0 0 0 0 0) 41)).setRow y2.heap.size (lc m0 m1 m2 m3 m4)) [] := (CC.alloc (.cells (lc 0 0 0 0 0) 41)).setRowNew CC.size _
  go_wp2_with (first | (refine wpList_store_row rfl 41 _ _ rfl y2.heap.size _ rfl rfl 41 _ A7 (limInfo _ _ _ _ _) rfl (lc_one _ _ _ _ _) ?_))
  clear A7
  clear sz
  obtain ⟨g7, hg7⟩ : ∃ g, g = y2.heap.size := ⟨_, rfl⟩
  obtain ⟨c0, d0⟩ := b0; obtain ⟨c1, d1⟩ := b1; obtain ⟨c2, d2⟩ := b2; obtain ⟨c3, d3⟩ := b3; obtain ⟨c4, d4⟩ := b4
  rw [← hg7] at F0 F1 F7 CC ⊢
  go_loopw [8] (fun t wr => ∃ k : Nat, k ≤ 5 ∧ t = .int .i64 (k : Int) ∧ Blk wr w.heap.size (feC a) 23 ∧ Blk wr (w.heap.size + 1) (lc l0 l1 l2 l3 l4) 41 ∧ Blk wr g7 (lc m0 m1 m2 m3 m4) 41 ∧ Chg w wr []) (fun t _ => (5 - intOf t).toNat)
  case atStart => exact ⟨0, by decide, rfl, F0, F1, F7, CC⟩
  clear F0 F1 F7 CC hg7 y2 y1
  obtain ⟨k, hk, rfl, F0, F1, F7, CC⟩ := hrel
  have hk5 : k = 0 ∨ k = 1 ∨ k = 2 ∨ k = 3 ∨ k = 4 ∨ k = 5 := by omega
  have k0 := F7.cell 0; have k1 := F7.cell 1; have k2 := F7.cell 2; have k3 := F7.cell 3; have k4 := F7.cell 4
  simp [lc] at k0 k1 k2 k3 k4
  rcases hk5 with rfl | rfl | rfl | rfl | rfl | rfl
  · go_wp2_with fail
    go_roundw
    case rel => exact ⟨1, by decide, rfl, F0, F1, F7, CC⟩
    case measure => simp [intOf]
  · go_wp2_with fail
    go_roundw
    case rel => exact ⟨2, by decide, rfl, F0, F1, F7, CC⟩
    case measure => simp [intOf]
  · go_wp2_with fail
    go_roundw
    case rel => exact ⟨3, by decide, rfl, F0, F1, F7, CC⟩
    case measure => simp [intOf]
  · go_wp2_with fail
    go_roundw
    case rel => exact ⟨4, by decide, rfl, F0, F1, F7, CC⟩
    case measure => simp [intOf]
  · go_wp2_with fail
    go_roundw
    case rel => exact ⟨5, by decide, rfl, F0, F1, F7, CC⟩
    case measure => simp [intOf]
  clear k0 k1 k2 k3 k4
  go_wp2_with fail
  refine (hb _ CC).mono ?_
  rintro e y3 ⟨rfl, k⟩
  replace F0 := F0.chg k (by simp)
  replace F1 := F1.chg k (by simp)
  replace F7 := F7.chg k (by simp)
  replace CC := CC.trans1 k
  clear k
  clear hb
  have sz0 : w.heap.size + 1 < y3.heap.size := F1.lt
  have szF7 : g7 < y3.heap.size := F7.lt
  have AA : Blk (y3.alloc (.cells z32 23)) y3.heap.size z32 23 := Blk.new y3 z32 23
  replace F0 : Blk ((y3.alloc (.cells z32 23)).setRow y3.heap.size (feC r)) w.heap.size (feC a) 23 := (F0.alloc _).setRowOther (by omega) _
  replace F1 : Blk ((y3.alloc (.cells z32 23)).setRow y3.heap.size (feC r)) (w.heap.size + 1) (lc l0 l1 l2 l3 l4) 41 := (F1.alloc _).setRowOther (by omega) _
  replace F7 : Blk ((y3.alloc (.cells z32 23)).setRow y3.heap.size (feC r)) g7 (lc m0 m1 m2 m3 m4) 41 := (F7.alloc _).setRowOther (by omega) _
  have F9 : Blk ((y3.alloc (.cells z32 23)).setRow y3.heap.size (feC r)) y3.heap.size (feC r) 23 := AA.setRow _
  replace CC : Chg w ((y3.alloc (.cells z32 23)).setRow y3.heap.size (feC r)) [] := (CC.alloc (.cells z32 23)).setRowNew CC.size _
  go_wp2_with (first | (refine wpList_store_row rfl 23 _ _ rfl y3.heap.size _ rfl rfl 23 _ AA feInfo rfl (feC_one _) ?_))
  clear AA sz0 szF7
  refine (Decode_yes y3.heap.size r rr hr.out _ _ F9).mono ?_
  rintro e y4 ⟨rfl, k⟩
  replace F0 := F0.chg k (by simp)
  replace F1 := F1.chg k (by simp)
  replace F7 := F7.chg k (by simp)
  replace F9 := F9.chg k (by simp)
  replace CC := CC.trans1 k
  clear k
  have sz0 : w.heap.size + 1 < y4.heap.size := F1.lt
  have szF7 : g7 < y4.heap.size := F7.lt
  have szF9 : y3.heap.size < y4.heap.size := F9.lt
  have AA : Blk (y4.alloc (.cells z32 23)) y4.heap.size z32 23 := Blk.new y4 z32 23
  replace F0 : Blk ((y4.alloc (.cells z32 23)).setRow y4.heap.size (feC r)) w.heap.size (feC a) 23 := (F0.alloc _).setRowOther (by omega) _
  replace F1 : Blk ((y4.alloc (.cells z32 23)).setRow y4.heap.size (feC r)) (w.heap.size + 1) (lc l0 l1 l2 l3 l4) 41 := (F1.alloc _).setRowOther (by omega) _
  replace F7 : Blk ((y4.alloc (.cells z32 23)).setRow y4.heap.size (feC r)) g7 (lc m0 m1 m2 m3 m4) 41 := (F7.alloc _).setRowOther (by omega) _
  replace F9 : Blk ((y4.alloc (.cells z32 23)).setRow y4.heap.size (feC r)) y3.heap.size (feC r) 23 := (F9.alloc _).setRowOther (by omega) _
  have F10 : Blk ((y4.alloc (.cells z32 23)).setRow y4.heap.size (feC r)) y4.heap.size (feC r) 23 := AA.setRow _
  replace CC : Chg w ((y4.alloc (.cells z32 23)).setRow y4.heap.size (feC r)) [] := (CC.alloc (.cells z32 23)).setRowNew CC.size _
  go_wp2_with (first | (refine wpList_store_row rfl 23 _ _ rfl y4.heap.size _ rfl rfl 23 _ AA feInfo rfl (feC_one _) ?_))
  clear AA sz0 szF7 szF9
  refine (Decode_yes w.heap.size a ra hc.out _ _ F0).mono ?_
  rintro e y5 ⟨rfl, k⟩
  replace F0 := F0.chg k (by simp)
  replace F1 := F1.chg k (by simp)
  replace F7 := F7.chg k (by simp)
  replace F9 := F9.chg k (by simp)
  replace F10 := F10.chg k (by simp)
  replace CC := CC.trans1 k
  clear k
  have sz0 : w.heap.size + 1 < y5.heap.size := F1.lt
  have szF7 : g7 < y5.heap.size := F7.lt
  have szF9 : y3.heap.size < y5.heap.size := F9.lt
  have szF10 : y4.heap.size < y5.heap.size := F10.lt
  have AA : Blk (y5.alloc (.cells z32 23)) y5.heap.size z32 23 := Blk.new y5 z32 23
  replace F0 : Blk ((y5.alloc (.cells z32 23)).setRow y5.heap.size (feC a)) w.heap.size (feC a) 23 := (F0.alloc _).setRowOther (by omega) _
  replace F1 : Blk ((y5.alloc (.cells z32 23)).setRow y5.heap.size (feC a)) (w.heap.size + 1) (lc l0 l1 l2 l3 l4) 41 := (F1.alloc _).setRowOther (by omega) _
  replace F7 : Blk ((y5.alloc (.cells z32 23)).setRow y5.heap.size (feC a)) g7 (lc m0 m1 m2 m3 m4) 41 := (F7.alloc _).setRowOther (by omega) _
  replace F9 : Blk ((y5.alloc (.cells z32 23)).setRow y5.heap.size (feC a)) y3.heap.size (feC r) 23 := (F9.alloc _).setRowOther (by omega) _
  replace F10 : Blk ((y5.alloc (.cells z32 23)).setRow y5.heap.size (feC a)) y4.heap.size (feC r) 23 := (F10.alloc _).setRowOther (by omega) _
  have F12 : Blk ((y5.alloc (.cells z32 23)).setRow y5.heap.size (feC a)) y5.heap.size (feC a) 23 := AA.setRow _
  replace CC : Chg w ((y5.alloc (.cells z32 23)).setRow y5.heap.size (feC a)) [] := (CC.alloc (.cells z32 23)).setRowNew CC.size _
  go_wp2_with (first | (refine wpList_store_row rfl 23 _ _ rfl y5.heap.size _ rfl rfl 23 _ AA feInfo rfl (feC_one _) ?_))
  clear AA sz0 szF7 szF9 szF10
  generalize hv : (y5.alloc (.cells z32 23)).setRow y5.heap.size (feC a) = v0 at F0 F1 F7 F9 F10 F12 CC
  change Code.wp _ _ _ _ ((y5.alloc (.cells z32 23)).setRow y5.heap.size (feC a))
  rw [hv]
  clear hv
  obtain ⟨rl0, rl1, rl2, rl3, rl4⟩ := rl
  refine wp_region_held_drew (S := fun w' => Chg v0 w' []) (by kernel_rfl) ((Chg.refl v0 []).drew) (fun hHeld => ?_)
  refine take_load 0 (some 38) (lc m0 m1 m2 m3 m4) rfl (by kernel_rfl) (by kernel_rfl) (by kernel_rfl) (fun _ _ _ h => h) rfl rfl 41 _ rfl g7 rfl 41 _ (fun w h => F7.chg h (by simp)) Try.underlying41 rfl (by first | exact feInfo | kernel_rfl) hHeld ?_
  try simp only [Act.put, List.setIfInBounds_toArray, List.set_cons_zero, List.set_cons_succ]
  refine take_load 2 (some 40) (feC a) rfl (by kernel_rfl) (by kernel_rfl) (by kernel_rfl) (fun _ _ _ h => h) rfl rfl 23 _ rfl w.heap.size rfl 23 _ (fun w h => F0.chg h (by simp)) Try.underlying23 rfl (by first | exact feInfo | kernel_rfl) hHeld ?_
  try simp only [Act.put, List.setIfInBounds_toArray, List.set_cons_zero, List.set_cons_succ]
  refine wpAnyH_ready (rs := [1]) (by kernel_rfl) (by simp) ?_
  refine AllReadyH.cons (o := _) rfl (fun K hK => ?_) ?_
  ·
    go_simp
    refine (Join_n m0 m1 m2 m3 m4 c ⟨c0, by omega⟩ ⟨c1, by omega⟩ ⟨c2, by omega⟩ ⟨c3, by omega⟩ ⟨c4, by omega⟩ hmc _).mono ?_
    rintro e q1 ⟨rfl, k⟩
    go_wp2_with fail
    refine hK.out _ _ (hHeld.trans1 k) (fun hHeld => ?_)
    clear hK K
    try simp only [Act.put, List.setIfInBounds_toArray, List.set_cons_zero, List.set_cons_succ]
    refine wpAnyH_ready (rs := [3]) (by kernel_rfl) (by simp) ?_
    refine AllReadyH.cons (o := _) rfl (fun K hK => ?_) ?_
    ·
      go_simp
      refine (Equal_b c a rca ra true hcc _).mono ?_
      rintro e q2 ⟨rfl, k⟩
      go_wp2_with fail
      refine hK.out _ _ (hHeld.trans1 k) (fun hHeld => ?_)
      clear hK K
      try simp only [Act.put, List.setIfInBounds_toArray, List.set_cons_zero, List.set_cons_succ]
      refine take_val (v := (.bool true)) 4 (some 42) rfl (by kernel_rfl) (by kernel_rfl) (by kernel_rfl) (fun _ _ _ h => h) rfl rfl (fun w hSw => ?_) hHeld ?_
      · (go_simp; try with_reducible rfl)
      try simp only [Act.put, List.setIfInBounds_toArray, List.set_cons_zero, List.set_cons_succ]
      refine take_load 5 (some 43) (lc l0 l1 l2 l3 l4) rfl (by kernel_rfl) (by kernel_rfl) (by kernel_rfl) (fun _ _ _ h => h) rfl rfl 41 _ rfl (w.heap.size + 1) rfl 41 _ (fun w h => F1.chg h (by simp)) Try.underlying41 rfl (by first | exact feInfo | kernel_rfl) hHeld ?_
      try simp only [Act.put, List.setIfInBounds_toArray, List.set_cons_zero, List.set_cons_succ]
      refine take_load 9 (some 47) (lc l0 l1 l2 l3 l4) rfl (by kernel_rfl) (by kernel_rfl) (by kernel_rfl) (fun _ _ _ h => h) rfl rfl 41 _ rfl (w.heap.size + 1) rfl 41 _ (fun w h => F1.chg h (by simp)) Try.underlying41 rfl (by first | exact feInfo | kernel_rfl) hHeld ?_
      try simp only [Act.put, List.setIfInBounds_toArray, List.set_cons_zero, List.set_cons_succ]
      refine wpAnyH_ready (rs := [6]) (by kernel_rfl) (by simp) ?_
      refine AllReadyH.cons (o := _) rfl (fun K hK => ?_) ?_
      ·
        go_simp
        refine (Join_n l0 l1 l2 l3 l4 j rl0 rl1 rl2 rl3 rl4 hj _).mono ?_
        rintro e q3 ⟨rfl, k⟩
        go_wp2_with fail
        refine hK.out _ _ (hHeld.trans1 k) (fun hHeld => ?_)
        clear hK K
        try simp only [Act.put, List.setIfInBounds_toArray, List.set_cons_zero, List.set_cons_succ]
        refine wpAnyH_ready (rs := [7]) (by kernel_rfl) (by simp) ?_
        refine AllReadyH.cons (o := _) rfl (fun K hK => ?_) ?_
        ·
          go_simp
          refine (Split_fe j rj _).mono ?_
          rintro e q4 ⟨⟨n0, n1, n2, n3, n4, rfl, ⟨e0, e1, e2, e3, e4⟩, hn⟩, k⟩
          have hnn : Hid (V n0 n1 n2 n3 n4 % P = j) := by rw [hn, Int.emod_emod_of_dvd _ (Int.dvd_refl P)]; exact hjj
          clear hn
          go_wp2_with fail
          refine hK.out _ _ (hHeld.trans1 k) (fun hHeld => ?_)
          clear hK K
          try simp only [Act.put, List.setIfInBounds_toArray, List.set_cons_zero, List.set_cons_succ]
          refine wpAnyH_ready (rs := [8]) (by kernel_rfl) (by simp) ?_
          refine AllReadyH.cons (o := _) rfl (fun K hK => ?_) ?_
          ·
            go_simp
            refine (Join_n n0 n1 n2 n3 n4 j (Li.wo e0) (Li.wo e1) (Li.wo e2) (Li.wo e3) (Li.wo e4) hnn _).mono ?_
            rintro e q5 ⟨rfl, k⟩
            go_wp2_with fail
            refine hK.out _ _ (hHeld.trans1 k) (fun hHeld => ?_)
            clear hK K
            try simp only [Act.put, List.setIfInBounds_toArray, List.set_cons_zero, List.set_cons_succ]
            refine wpAnyH_ready (rs := [10]) (by kernel_rfl) (by simp) ?_
            refine AllReadyH.cons (o := _) rfl (fun K hK => ?_) ?_
            ·
              go_simp
              refine (Join_n l0 l1 l2 l3 l4 j rl0 rl1 rl2 rl3 rl4 hj _).mono ?_
              rintro e q6 ⟨rfl, k⟩
              go_wp2_with fail
              refine hK.out _ _ (hHeld.trans1 k) (fun hHeld => ?_)
              clear hK K
              try simp only [Act.put, List.setIfInBounds_toArray, List.set_cons_zero, List.set_cons_succ]
              refine take_val (v := (.bool true)) 11 (some 49) rfl (by kernel_rfl) (by kernel_rfl) (by kernel_rfl) (fun _ _ _ h => h) rfl rfl (fun w hSw => ?_) hHeld ?_
              · (go_simp; try with_reducible rfl)
              try simp only [Act.put, List.setIfInBounds_toArray, List.set_cons_zero, List.set_cons_succ]
              refine take_val (v := (.bool true)) 12 (some 50) rfl (by kernel_rfl) (by kernel_rfl) (by kernel_rfl) (fun _ _ _ h => h) rfl rfl (fun w hSw => ?_) hHeld ?_
              · (go_simp; try with_reducible rfl)
              try simp only [Act.put, List.setIfInBounds_toArray, List.set_cons_zero, List.set_cons_succ]
              refine take_val (v := (.bool true)) 13 (some 51) rfl (by kernel_rfl) (by kernel_rfl) (by kernel_rfl) (fun _ _ _ h => h) rfl rfl (fun w hSw => ?_) hHeld ?_
              · (go_simp; try with_reducible rfl)
              try simp only [Act.put, List.setIfInBounds_toArray, List.set_cons_zero, List.set_cons_succ]
              refine take_val (v := (.int .i64 0)) 14 (some 52) rfl (by kernel_rfl) (by kernel_rfl) (by kernel_rfl) (fun _ _ _ h => h) rfl rfl (fun w hSw => ?_) hHeld ?_
              · (go_simp; try with_reducible rfl)
              try simp only [Act.put, List.setIfInBounds_toArray, List.set_cons_zero, List.set_cons_succ]
              refine wpAnyH_ready (rs := [15]) (by kernel_rfl) (by simp) ?_
              refine AllReadyH.cons (o := _) rfl (fun K hK => ?_) ?_
              ·
                go_simp
                refine (num_0 _).mono ?_
                rintro e q7 ⟨rfl, k⟩
                go_wp2_with fail
                refine hK.out _ _ (hHeld.trans1 k) (fun hHeld => ?_)
                clear hK K
                try simp only [Act.put, List.setIfInBounds_toArray, List.set_cons_zero, List.set_cons_succ]
                refine take_val (v := (.bool true)) 16 (some 54) rfl (by kernel_rfl) (by kernel_rfl) (by kernel_rfl) (fun _ _ _ h => h) rfl rfl (fun w hSw => ?_) hHeld ?_
                · (go_simp; try with_reducible rfl)
                try simp only [Act.put, List.setIfInBounds_toArray, List.set_cons_zero, List.set_cons_succ]
                refine take_val (v := (.bool true)) 17 (some 55) rfl (by kernel_rfl) (by kernel_rfl) (by kernel_rfl) (fun _ _ _ h => h) rfl rfl (fun w hSw => ?_) hHeld ?_
                · (go_simp; try with_reducible rfl)
                try simp only [Act.put, List.setIfInBounds_toArray, List.set_cons_zero, List.set_cons_succ]
                refine take_val (v := (.bool true)) 18 (some 56) rfl (by kernel_rfl) (by kernel_rfl) (by kernel_rfl) (fun _ _ _ h => h) rfl rfl (fun w hSw => ?_) hHeld ?_
                · (go_simp; try with_reducible rfl)
                try simp only [Act.put, List.setIfInBounds_toArray, List.set_cons_zero, List.set_cons_succ]
                refine take_load 19 (some 57) (feC r) rfl (by kernel_rfl) (by kernel_rfl) (by kernel_rfl) (fun _ _ _ h => h) rfl rfl 23 _ rfl y4.heap.size rfl 23 _ (fun w h => F10.chg h (by simp)) Try.underlying23 rfl (by first | exact feInfo | kernel_rfl) hHeld ?_
                try simp only [Act.put, List.setIfInBounds_toArray, List.set_cons_zero, List.set_cons_succ]
                refine take_load 20 (some 58) (feC r) rfl (by kernel_rfl) (by kernel_rfl) (by kernel_rfl) (fun _ _ _ h => h) rfl rfl 23 _ rfl y3.heap.size rfl 23 _ (fun w h => F9.chg h (by simp)) Try.underlying23 rfl (by first | exact feInfo | kernel_rfl) hHeld ?_
                try simp only [Act.put, List.setIfInBounds_toArray, List.set_cons_zero, List.set_cons_succ]
                refine take_val (v := (.bool true)) 21 (some 59) rfl (by kernel_rfl) (by kernel_rfl) (by kernel_rfl) (fun _ _ _ h => h) rfl rfl (fun w hSw => ?_) hHeld ?_
                · (go_simp; try with_reducible rfl)
                try simp only [Act.put, List.setIfInBounds_toArray, List.set_cons_zero, List.set_cons_succ]
                refine take_val (v := (.bool true)) 22 (some 60) rfl (by kernel_rfl) (by kernel_rfl) (by kernel_rfl) (fun _ _ _ h => h) rfl rfl (fun w hSw => ?_) hHeld ?_
                · (go_simp; try with_reducible rfl)
                try simp only [Act.put, List.setIfInBounds_toArray, List.set_cons_zero, List.set_cons_succ]
                refine take_val (v := (.bool true)) 23 (some 61) rfl (by kernel_rfl) (by kernel_rfl) (by kernel_rfl) (fun _ _ _ h => h) rfl rfl (fun w hSw => ?_) hHeld ?_
                · (go_simp; try with_reducible rfl)
                try simp only [Act.put, List.setIfInBounds_toArray, List.set_cons_zero, List.set_cons_succ]
                refine take_val (v := (.int .i64 0)) 24 (some 62) rfl (by kernel_rfl) (by kernel_rfl) (by kernel_rfl) (fun _ _ _ h => h) rfl rfl (fun w hSw => ?_) hHeld ?_
                · (go_simp; try with_reducible rfl)
                try simp only [Act.put, List.setIfInBounds_toArray, List.set_cons_zero, List.set_cons_succ]
                refine take_load 27 (some 65) (feC a) rfl (by kernel_rfl) (by kernel_rfl) (by kernel_rfl) (fun _ _ _ h => h) rfl rfl 23 _ rfl w.heap.size rfl 23 _ (fun w h => F0.chg h (by simp)) Try.underlying23 rfl (by first | exact feInfo | kernel_rfl) hHeld ?_
                try simp only [Act.put, List.setIfInBounds_toArray, List.set_cons_zero, List.set_cons_succ]
                refine wpAnyH_ready (rs := [25]) (by kernel_rfl) (by simp) ?_
                refine AllReadyH.cons (o := _) rfl (fun K hK => ?_) ?_
                ·
                  go_simp
                  refine (num_0 _).mono ?_
                  rintro e q8 ⟨rfl, k⟩
                  go_wp2_with fail
                  refine hK.out _ _ (hHeld.trans1 k) (fun hHeld => ?_)
                  clear hK K
                  try simp only [Act.put, List.setIfInBounds_toArray, List.set_cons_zero, List.set_cons_succ]
                  refine take_val (v := (.bool true)) 26 (some 64) rfl (by kernel_rfl) (by kernel_rfl) (by kernel_rfl) (fun _ _ _ h => h) rfl rfl (fun w hSw => ?_) hHeld ?_
                  · (go_simp; try with_reducible rfl)
                  try simp only [Act.put, List.setIfInBounds_toArray, List.set_cons_zero, List.set_cons_succ]
                  refine wpAnyH_ready (rs := [28]) (by kernel_rfl) (by simp) ?_
                  refine AllReadyH.cons (o := _) rfl (fun K hK => ?_) ?_
                  ·
                    go_simp
                    refine (Canon_b a ra true hc _).mono ?_
                    rintro e q10 ⟨rfl, k⟩
                    go_wp2_with fail
                    refine hK.out _ _ (hHeld.trans1 k) (fun hHeld => ?_)
                    clear hK K
                    try simp only [Act.put, List.setIfInBounds_toArray, List.set_cons_zero, List.set_cons_succ]
                    refine take_val (v := (.bool true)) 29 (some 67) rfl (by kernel_rfl) (by kernel_rfl) (by kernel_rfl) (fun _ _ _ h => h) rfl rfl (fun w hSw => ?_) hHeld ?_
                    · (go_simp; try with_reducible rfl)
                    try simp only [Act.put, List.setIfInBounds_toArray, List.set_cons_zero, List.set_cons_succ]
                    refine take_val (v := (.bool true)) 30 (some 68) rfl (by kernel_rfl) (by kernel_rfl) (by kernel_rfl) (fun _ _ _ h => h) rfl rfl (fun w hSw => ?_) hHeld ?_
                    · (go_simp; try with_reducible rfl)
                    try simp only [Act.put, List.setIfInBounds_toArray, List.set_cons_zero, List.set_cons_succ]
                    refine take_val (v := (.bool true)) 31 (some 69) rfl (by kernel_rfl) (by kernel_rfl) (by kernel_rfl) (fun _ _ _ h => h) rfl rfl (fun w hSw => ?_) hHeld ?_
                    · (go_simp; try with_reducible rfl)
                    try simp only [Act.put, List.setIfInBounds_toArray, List.set_cons_zero, List.set_cons_succ]
                    refine take_val (v := (.int .i64 0)) 32 (some 70) rfl (by kernel_rfl) (by kernel_rfl) (by kernel_rfl) (fun _ _ _ h => h) rfl rfl (fun w hSw => ?_) hHeld ?_
                    · (go_simp; try with_reducible rfl)
                    try simp only [Act.put, List.setIfInBounds_toArray, List.set_cons_zero, List.set_cons_succ]
                    refine wpAnyH_ready (rs := [33]) (by kernel_rfl) (by simp) ?_
                    refine AllReadyH.cons (o := _) rfl (fun K hK => ?_) ?_
                    ·
                      go_simp
                      refine (num_0 _).mono ?_
                      rintro e q9 ⟨rfl, k⟩
                      go_wp2_with fail
                      refine hK.out _ _ (hHeld.trans1 k) (fun hHeld => ?_)
                      clear hK K
                      try simp only [Act.put, List.setIfInBounds_toArray, List.set_cons_zero, List.set_cons_succ]
                      refine take_val (v := (.bool false)) 34 (some 72) rfl (by kernel_rfl) (by kernel_rfl) (by kernel_rfl) (fun _ _ _ h => h) rfl rfl (fun w hSw => ?_) hHeld ?_
                      · (go_simp; try with_reducible rfl)
                      try simp only [Act.put, List.setIfInBounds_toArray, List.set_cons_zero, List.set_cons_succ]
                      refine take_val (v := (.bool false)) 35 (some 73) rfl (by kernel_rfl) (by kernel_rfl) (by kernel_rfl) (fun _ _ _ h => h) rfl rfl (fun w hSw => ?_) hHeld ?_
                      · (go_simp; try with_reducible rfl)
                      try simp only [Act.put, List.setIfInBounds_toArray, List.set_cons_zero, List.set_cons_succ]
                      refine take_load 36 (some 74) (feC a) rfl (by kernel_rfl) (by kernel_rfl) (by kernel_rfl) (fun _ _ _ h => h) rfl rfl 23 _ rfl y5.heap.size rfl 23 _ (fun w h => F12.chg h (by simp)) Try.underlying23 rfl (by first | exact feInfo | kernel_rfl) hHeld ?_
                      try simp only [Act.put, List.setIfInBounds_toArray, List.set_cons_zero, List.set_cons_succ]
                      refine take_load 37 (some 75) (feC a) rfl (by kernel_rfl) (by kernel_rfl) (by kernel_rfl) (fun _ _ _ h => h) rfl rfl 23 _ rfl w.heap.size rfl 23 _ (fun w h => F0.chg h (by simp)) Try.underlying23 rfl (by first | exact feInfo | kernel_rfl) hHeld ?_
                      try simp only [Act.put, List.setIfInBounds_toArray, List.set_cons_zero, List.set_cons_succ]
                      refine take_val (v := (.bool true)) 38 (some 76) rfl (by kernel_rfl) (by kernel_rfl) (by kernel_rfl) (fun _ _ _ h => h) rfl rfl (fun w hSw => ?_) hHeld ?_
                      · (go_simp; try with_reducible rfl)
                      try simp only [Act.put, List.setIfInBounds_toArray, List.set_cons_zero, List.set_cons_succ]
                      refine take_val (v := (.bool true)) 39 (some 77) rfl (by kernel_rfl) (by kernel_rfl) (by kernel_rfl) (fun _ _ _ h => h) rfl rfl (fun w hSw => ?_) hHeld ?_
                      · (go_simp; try with_reducible rfl)
                      try simp only [Act.put, List.setIfInBounds_toArray, List.set_cons_zero, List.set_cons_succ]
                      refine take_val (v := (.bool true)) 40 (some 78) rfl (by kernel_rfl) (by kernel_rfl) (by kernel_rfl) (fun _ _ _ h => h) rfl rfl (fun w hSw => ?_) hHeld ?_
                      · (go_simp; try with_reducible rfl)
                      try simp only [Act.put, List.setIfInBounds_toArray, List.set_cons_zero, List.set_cons_succ]
                      refine take_val (v := (.bool true)) 41 (some 79) rfl (by kernel_rfl) (by kernel_rfl) (by kernel_rfl) (fun _ _ _ h => h) rfl rfl (fun w hSw => ?_) hHeld ?_
                      · (go_simp; try with_reducible rfl)
                      try simp only [Act.put, List.setIfInBounds_toArray, List.set_cons_zero, List.set_cons_succ]
                      refine take_load 42 (some 80) (feC a) rfl (by kernel_rfl) (by kernel_rfl) (by kernel_rfl) (fun _ _ _ h => h) rfl rfl 23 _ rfl w.heap.size rfl 23 _ (fun w h => F0.chg h (by simp)) Try.underlying23 rfl (by first | exact feInfo | kernel_rfl) hHeld ?_
                      try simp only [Act.put, List.setIfInBounds_toArray, List.set_cons_zero, List.set_cons_succ]
                      refine take_val (v := (.slice (some ⟨w.heap.size, 0, none⟩) 32 32)) 44 (some 82) rfl (by kernel_rfl) (by kernel_rfl) (by kernel_rfl) (fun _ _ _ h => h) rfl rfl (fun w hSw => ?_) hHeld ?_
                      · (go_simp; try with_reducible rfl)
                      try simp only [Act.put, List.setIfInBounds_toArray, List.set_cons_zero, List.set_cons_succ]
                      refine take_load 46 (some 84) (feC a) rfl (by kernel_rfl) (by kernel_rfl) (by kernel_rfl) (fun _ _ _ h => h) rfl rfl 23 _ rfl w.heap.size rfl 23 _ (fun w h => F0.chg h (by simp)) Try.underlying23 rfl (by first | exact feInfo | kernel_rfl) hHeld ?_
                      try simp only [Act.put, List.setIfInBounds_toArray, List.set_cons_zero, List.set_cons_succ]
                      refine wpAnyH_ready (rs := [43]) (by kernel_rfl) (by simp) ?_
                      refine AllReadyH.cons (o := _) rfl (fun K hK => ?_) ?_
                      ·
                        go_simp
                        refine (Canon_b a ra true hc _).mono ?_
                        rintro e q11 ⟨rfl, k⟩
                        go_wp2_with fail
                        refine hK.out _ _ (hHeld.trans1 k) (fun hHeld => ?_)
                        clear hK K
                        try simp only [Act.put, List.setIfInBounds_toArray, List.set_cons_zero, List.set_cons_succ]
                        refine wpAnyH_ready (rs := [45]) (by kernel_rfl) (by simp) ?_
                        refine AllReadyH.cons (o := _) rfl (fun K hK => ?_) ?_
                        ·
                          go_simp
                          refine (Reduce_n w.heap.size a a ra he _ _ (F0.chg hHeld (by simp))).mono ?_
                          rintro e q12 ⟨rfl, k⟩
                          go_wp2_with fail
                          refine hK.out _ _ (hHeld.trans1 k) (fun hHeld => ?_)
                          clear hK K
                          try simp only [Act.put, List.setIfInBounds_toArray, List.set_cons_zero, List.set_cons_succ]
                          refine take_val (v := (.bool true)) 47 (some 85) rfl (by kernel_rfl) (by kernel_rfl) (by kernel_rfl) (fun _ _ _ h => h) rfl rfl (fun w hSw => ?_) hHeld ?_
                          · (go_simp; try with_reducible rfl)
                          try simp only [Act.put, List.setIfInBounds_toArray, List.set_cons_zero, List.set_cons_succ]
                          refine take_val (v := (.bool true)) 48 (some 86) rfl (by kernel_rfl) (by kernel_rfl) (by kernel_rfl) (fun _ _ _ h => h) rfl rfl (fun w hSw => ?_) hHeld ?_
                          · (go_simp; try with_reducible rfl)
                          try simp only [Act.put, List.setIfInBounds_toArray, List.set_cons_zero, List.set_cons_succ]
                          refine take_val (v := (.bool true)) 49 (some 87) rfl (by kernel_rfl) (by kernel_rfl) (by kernel_rfl) (fun _ _ _ h => h) rfl rfl (fun w hSw => ?_) hHeld ?_
                          · (go_simp; try with_reducible rfl)
                          try simp only [Act.put, List.setIfInBounds_toArray, List.set_cons_zero, List.set_cons_succ]
                          refine take_val (v := (.bool true)) 50 (some 6) rfl (by kernel_rfl) (by kernel_rfl) (by kernel_rfl) (fun _ _ _ h => h) rfl rfl (fun w hSw => ?_) hHeld ?_
                          · (go_simp; try with_reducible rfl)
                          try simp only [Act.put, List.setIfInBounds_toArray, List.set_cons_zero, List.set_cons_succ]
                          refine wpAnyH_done (by kernel_rfl) ?_ _
                          go_wp2
                          go_ret
                          exact ⟨rfl, CC.trans1 hHeld⟩
                        exact AllReadyH.nil
                      exact AllReadyH.nil
                    exact AllReadyH.nil
                  exact AllReadyH.nil
                exact AllReadyH.nil
              exact AllReadyH.nil
            exact AllReadyH.nil
          exact AllReadyH.nil
        exact AllReadyH.nil
      exact AllReadyH.nil
    exact AllReadyH.nil
  exact AllReadyH.nil

set_option maxHeartbeats 16000000 in
set_option maxRecDepth 100000 in
theorem back_no (a c l0 l1 l2 l3 l4 j r : Int) (bv : Value) (ra : R256 a) (rl : Hid (Wo l0 ∧ Wo l1 ∧ Wo l2 ∧ Wo l3 ∧ Wo l4)) (hca : Hid (a % P = c)) (rca : R256 c) (hcc : Hid (eqf (c % P) (a % P) = true))
    (hj : Hid (V l0 l1 l2 l3 l4 % P = j)) (rj : R256 j) (hjj : Hid (j % P = j)) (rr : R256 r) (hr : Hid (eqf r (r % P) = true)) (hc : Hid (eqf a (a % P) = false)) (he : eqf c a = false) (w : World)
    (hb : ∀ w', Chg w w' [] → Calls Try.prog 27 #[bv] w' fun e w'' => e = .returned (fe r) ∧ Chg w' w'' []) :
    Calls Try.prog 6 #[fe a, .agg (lc l0 l1 l2 l3 l4), bv] w fun e w' => e = .returned (.bool true) ∧ Chg w w' [] := by
  have hge := feGuard
  have F0 : Blk ((w.alloc (.cells (feC a) 23)).alloc (.cells (lc l0 l1 l2 l3 l4) 41)) w.heap.size (feC a) 23 := (Blk.new w (feC a) 23).alloc _
  have F1 : Blk ((w.alloc (.cells (feC a) 23)).alloc (.cells (lc l0 l1 l2 l3 l4) 41)) (w.heap.size + 1) (lc l0 l1 l2 l3 l4) 41 := by have h := Blk.new (w.alloc (.cells (feC a) 23)) (lc l0 l1 l2 l3 l4) 41; simpa using h
  have CC : Chg w ((w.alloc (.cells (feC a) 23)).alloc (.cells (lc l0 l1 l2 l3 l4) 41)) [] := ((Chg.refl w []).alloc (.cells (feC a) 23)).alloc (.cells (lc l0 l1 l2 l3 l4) 41)
  go_enter Try.func6, Try.ntmps6
  go_wp2_with fail
  refine (alive_true _).mono ?_
  rintro e y1 ⟨rfl, k⟩
  replace F0 := F0.chg k (by simp)
  replace F1 := F1.chg k (by simp)
  replace CC := CC.trans1 k
  clear k
  go_wp2_with (first | (refine gl_load (by rfl) 23 _ rfl w.heap.size rfl 23 (feC a) _ F0 Try.underlying23 rfl feInfo ?_))
  refine (Split_fe a ra _).mono ?_
  rintro e y2 ⟨⟨m0, m1, m2, m3, m4, rfl, ⟨b0, b1, b2, b3, b4⟩, hm⟩, k⟩
  replace F0 := F0.chg k (by simp)
  replace F1 := F1.chg k (by simp)
  replace CC := CC.trans1 k
  clear k
  have hmc : Hid (V m0 m1 m2 m3 m4 % P = c) := by rw [hm, Int.emod_emod_of_dvd _ (Int.dvd_refl P)]; exact hca
  clear hm
  have sz : w.heap.size + 1 < y2.heap.size := F1.lt
  have A7 : Blk (y2.alloc (.cells (lc 0 0 0 0 0) 41)) y2.heap.size (lc 0 0 0 0 0) 41 := Blk.new y2 (lc 0 0 0 0 0) 41
  replace F0 : Blk ((y2.alloc (.cells (lc 0 0 0 0 0) 41)).setRow y2.heap.size (lc m0 m1 m2 m3 m4)) w.heap.size (feC a) 23 := (F0.alloc _).setRowOther (by omega) _
  replace F1 : Blk ((y2.alloc (.cells (lc 0 0 0 0 0) 41)).setRow y2.heap.size (lc m0 m1 m2 m3 m4)) (w.heap.size + 1) (lc l0 l1 l2 l3 l4) 41 := (F1.alloc _).setRowOther (by omega) _
  have F7 : Blk ((y2.alloc (.cells (lc 0 0 0 0 0) 41)).setRow y2.heap.size (lc m0 m1 m2 m3 m4)) y2.heap.size (lc m0 m1 m2 m3 m4) 41 := A7.setRow _
  replace CC : Chg w ((y2.alloc (.cells (lc 0 0 0 0 0) 41)).setRow y2.heap.size (lc m0 m1 m2 m3 m4)) [] := (CC.alloc (.cells (lc 0 0 0 0 0) 41)).setRowNew CC.size _
  go_wp2_with (first | (refine wpList_store_row rfl 41 _ _ rfl y2.heap.size _ rfl rfl 41 _ A7 (limInfo _ _ _ _ _) rfl (lc_one _ _ _ _ _) ?_))
  clear A7
  clear sz
  obtain ⟨g7, hg7⟩ : ∃ g, g = y2.heap.size := ⟨_, rfl⟩
  obtain ⟨c0, d0⟩ := b0; obtain ⟨c1, d1⟩ := b1; obtain ⟨c2, d2⟩ := b2; obtain ⟨c3, d3⟩ := b3; obtain ⟨c4, d4⟩ := b4
  rw [← hg7] at F0 F1 F7 CC ⊢
  go_loopw [8] (fun t wr => ∃ k : Nat, k ≤ 5 ∧ t = .int .i64 (k : Int) ∧ Blk wr w.heap.size (feC a) 23 ∧ Blk wr (w.heap.size + 1) (lc l0 l1 l2 l3 l4) 41 ∧ Blk wr g7 (lc m0 m1 m2 m3 m4) 41 ∧ Chg w wr []) (fun t _ => (5 - intOf t).toNat)
  case atStart => exact ⟨0, by decide, rfl, F0, F1, F7, CC⟩
  clear F0 F1 F7 CC hg7 y2 y1
  obtain ⟨k, hk, rfl, F0, F1, F7, CC⟩ := hrel
  have hk5 : k = 0 ∨ k = 1 ∨ k = 2 ∨ k = 3 ∨ k = 4 ∨ k = 5 := by omega
  have k0 := F7.cell 0; have k1 := F7.cell 1; have k2 := F7.cell 2; have k3 := F7.cell 3; have k4 := F7.cell 4
  simp [lc] at k0 k1 k2 k3 k4
  rcases hk5 with rfl | rfl | rfl | rfl | rfl | rfl
  · go_wp2_with fail
    go_roundw
    case rel => exact ⟨1, by decide, rfl, F0, F1, F7, CC⟩
    case measure => simp [intOf]
  · go_wp2_with fail
    go_roundw
    case rel => exact ⟨2, by decide, rfl, F0, F1, F7, CC⟩
    case measure => simp [intOf]
  · go_wp2_with fail
    go_roundw
    case rel => exact ⟨3, by decide, rfl, F0, F1, F7, CC⟩
    case measure => simp [intOf]
  · go_wp2_with fail
    go_roundw
    case rel => exact ⟨4, by decide, rfl, F0, F1, F7, CC⟩
    case measure => simp [intOf]
  · go_wp2_with fail
    go_roundw
    case rel => exact ⟨5, by decide, rfl, F0, F1, F7, CC⟩
    case measure => simp [intOf]
  clear k0 k1 k2 k3 k4
  go_wp2_with fail
  refine (hb _ CC).mono ?_
  rintro e y3 ⟨rfl, k⟩
  replace F0 := F0.chg k (by simp)
  replace F1 := F1.chg k (by simp)
  replace F7 := F7.chg k (by simp)
  replace CC := CC.trans1 k
  clear k
  clear hb
  have sz0 : w.heap.size + 1 < y3.heap.size := F1.lt
  have szF7 : g7 < y3.heap.size := F7.lt
  have AA : Blk (y3.alloc (.cells z32 23)) y3.heap.size z32 23 := Blk.new y3 z32 23
  replace F0 : Blk ((y3.alloc (.cells z32 23)).setRow y3.heap.size (feC r)) w.heap.size (feC a) 23 := (F0.alloc _).setRowOther (by omega) _
  replace F1 : Blk ((y3.alloc (.cells z32 23)).setRow y3.heap.size (feC r)) (w.heap.size + 1) (lc l0 l1 l2 l3 l4) 41 := (F1.alloc _).setRowOther (by omega) _
  replace F7 : Blk ((y3.alloc (.cells z32 23)).setRow y3.heap.size (feC r)) g7 (lc m0 m1 m2 m3 m4) 41 := (F7.alloc _).setRowOther (by omega) _
  have F9 : Blk ((y3.alloc (.cells z32 23)).setRow y3.heap.size (feC r)) y3.heap.size (feC r) 23 := AA.setRow _
  replace CC : Chg w ((y3.alloc (.cells z32 23)).setRow y3.heap.size (feC r)) [] := (CC.alloc (.cells z32 23)).setRowNew CC.size _
  go_wp2_with (first | (refine wpList_store_row rfl 23 _ _ rfl y3.heap.size _ rfl rfl 23 _ AA feInfo rfl (feC_one _) ?_))
  clear AA sz0 szF7
  refine (Decode_yes y3.heap.size r rr hr.out _ _ F9).mono ?_
  rintro e y4 ⟨rfl, k⟩
  replace F0 := F0.chg k (by simp)
  replace F1 := F1.chg k (by simp)
  replace F7 := F7.chg k (by simp)
  replace F9 := F9.chg k (by simp)
  replace CC := CC.trans1 k
  clear k
  have sz0 : w.heap.size + 1 < y4.heap.size := F1.lt
  have szF7 : g7 < y4.heap.size := F7.lt
  have szF9 : y3.heap.size < y4.heap.size := F9.lt
  have AA : Blk (y4.alloc (.cells z32 23)) y4.heap.size z32 23 := Blk.new y4 z32 23
  replace F0 : Blk ((y4.alloc (.cells z32 23)).setRow y4.heap.size (feC r)) w.heap.size (feC a) 23 := (F0.alloc _).setRowOther (by omega) _
  replace F1 : Blk ((y4.alloc (.cells z32 23)).setRow y4.heap.size (feC r)) (w.heap.size + 1) (lc l0 l1 l2 l3 l4) 41 := (F1.alloc _).setRowOther (by omega) _
  replace F7 : Blk ((y4.alloc (.cells z32 23)).setRow y4.heap.size (feC r)) g7 (lc m0 m1 m2 m3 m4) 41 := (F7.alloc _).setRowOther (by omega) _
  replace F9 : Blk ((y4.alloc (.cells z32 23)).setRow y4.heap.size (feC r)) y3.heap.size (feC r) 23 := (F9.alloc _).setRowOther (by omega) _
  have F10 : Blk ((y4.alloc (.cells z32 23)).setRow y4.heap.size (feC r)) y4.heap.size (feC r) 23 := AA.setRow _
  replace CC : Chg w ((y4.alloc (.cells z32 23)).setRow y4.heap.size (feC r)) [] := (CC.alloc (.cells z32 23)).setRowNew CC.size _
  go_wp2_with (first | (refine wpList_store_row rfl 23 _ _ rfl y4.heap.size _ rfl rfl 23 _ AA feInfo rfl (feC_one _) ?_))
  clear AA sz0 szF7 szF9
  refine (Decode_no w.heap.size a ra hc.out _ _ F0).mono ?_
  rintro e y5 ⟨rfl, k⟩
  replace F0 := F0.chg k (by simp)
  replace F1 := F1.chg k (by simp)
  replace F7 := F7.chg k (by simp)
  replace F9 := F9.chg k (by simp)
  replace F10 := F10.chg k (by simp)
  replace CC := CC.trans1 k
  clear k
  have sz0 : w.heap.size + 1 < y5.heap.size := F1.lt
  have szF7 : g7 < y5.heap.size := F7.lt
  have szF9 : y3.heap.size < y5.heap.size := F9.lt
  have szF10 : y4.heap.size < y5.heap.size := F10.lt
  have AA : Blk (y5.alloc (.cells z32 23)) y5.heap.size z32 23 := Blk.new y5 z32 23
  replace F0 : Blk ((y5.alloc (.cells z32 23)).setRow y5.heap.size (feC 0)) w.heap.size (feC a) 23 := (F0.alloc _).setRowOther (by omega) _
  replace F1 : Blk ((y5.alloc (.cells z32 23)).setRow y5.heap.size (feC 0)) (w.heap.size + 1) (lc l0 l1 l2 l3 l4) 41 := (F1.alloc _).setRowOther (by omega) _
  replace F7 : Blk ((y5.alloc (.cells z32 23)).setRow y5.heap.size (feC 0)) g7 (lc m0 m1 m2 m3 m4) 41 := (F7.alloc _).setRowOther (by omega) _
  replace F9 : Blk ((y5.alloc (.cells z32 23)).setRow y5.heap.size (feC 0)) y3.heap.size (feC r) 23 := (F9.alloc _).setRowOther (by omega) _
  replace F10 : Blk ((y5.alloc (.cells z32 23)).setRow y5.heap.size (feC 0)) y4.heap.size (feC r) 23 := (F10.alloc _).setRowOther (by omega) _
  have F12 : Blk ((y5.alloc (.cells z32 23)).setRow y5.heap.size (feC 0)) y5.heap.size (feC 0) 23 := AA.setRow _
  replace CC : Chg w ((y5.alloc (.cells z32 23)).setRow y5.heap.size (feC 0)) [] := (CC.alloc (.cells z32 23)).setRowNew CC.size _
  go_wp2_with (first | (refine wpList_store_row rfl 23 _ _ rfl y5.heap.size _ rfl rfl 23 _ AA feInfo rfl (feC_one _) ?_))
  clear AA sz0 szF7 szF9 szF10
  generalize hv : (y5.alloc (.cells z32 23)).setRow y5.heap.size (feC 0) = v0 at F0 F1 F7 F9 F10 F12 CC
  change Code.wp _ _ _ _ ((y5.alloc (.cells z32 23)).setRow y5.heap.size (feC 0))
  rw [hv]
  clear hv
  obtain ⟨rl0, rl1, rl2, rl3, rl4⟩ := rl
  refine wp_region_held_drew (S := fun w' => Chg v0 w' []) (by kernel_rfl) ((Chg.refl v0 []).drew) (fun hHeld => ?_)
  refine take_load 0 (some 38) (lc m0 m1 m2 m3 m4) rfl (by kernel_rfl) (by kernel_rfl) (by kernel_rfl) (fun _ _ _ h => h) rfl rfl 41 _ rfl g7 rfl 41 _ (fun w h => F7.chg h (by simp)) Try.underlying41 rfl (by first | exact feInfo | kernel_rfl) hHeld ?_
  try simp only [Act.put, List.setIfInBounds_toArray, List.set_cons_zero, List.set_cons_succ]
  refine take_load 2 (some 40) (feC a) rfl (by kernel_rfl) (by kernel_rfl) (by kernel_rfl) (fun _ _ _ h => h) rfl rfl 23 _ rfl w.heap.size rfl 23 _ (fun w h => F0.chg h (by simp)) Try.underlying23 rfl (by first | exact feInfo | kernel_rfl) hHeld ?_
  try simp only [Act.put, List.setIfInBounds_toArray, List.set_cons_zero, List.set_cons_succ]
  refine wpAnyH_ready (rs := [1]) (by kernel_rfl) (by simp) ?_
  refine AllReadyH.cons (o := _) rfl (fun K hK => ?_) ?_
  ·
    go_simp
    refine (Join_n m0 m1 m2 m3 m4 c ⟨c0, by omega⟩ ⟨c1, by omega⟩ ⟨c2, by omega⟩ ⟨c3, by omega⟩ ⟨c4, by omega⟩ hmc _).mono ?_
    rintro e q1 ⟨rfl, k⟩
    go_wp2_with fail
    refine hK.out _ _ (hHeld.trans1 k) (fun hHeld => ?_)
    clear hK K
    try simp only [Act.put, List.setIfInBounds_toArray, List.set_cons_zero, List.set_cons_succ]
    refine wpAnyH_ready (rs := [3]) (by kernel_rfl) (by simp) ?_
    refine AllReadyH.cons (o := _) rfl (fun K hK => ?_) ?_
    ·
      go_simp
      refine (Equal_b c a rca ra true hcc _).mono ?_
      rintro e q2 ⟨rfl, k⟩
      go_wp2_with fail
      refine hK.out _ _ (hHeld.trans1 k) (fun hHeld => ?_)
      clear hK K
      try simp only [Act.put, List.setIfInBounds_toArray, List.set_cons_zero, List.set_cons_succ]
      refine take_val (v := (.bool true)) 4 (some 42) rfl (by kernel_rfl) (by kernel_rfl) (by kernel_rfl) (fun _ _ _ h => h) rfl rfl (fun w hSw => ?_) hHeld ?_
      · (go_simp; try with_reducible rfl)
      try simp only [Act.put, List.setIfInBounds_toArray, List.set_cons_zero, List.set_cons_succ]
      refine take_load 5 (some 43) (lc l0 l1 l2 l3 l4) rfl (by kernel_rfl) (by kernel_rfl) (by kernel_rfl) (fun _ _ _ h => h) rfl rfl 41 _ rfl (w.heap.size + 1) rfl 41 _ (fun w h => F1.chg h (by simp)) Try.underlying41 rfl (by first | exact feInfo | kernel_rfl) hHeld ?_
      try simp only [Act.put, List.setIfInBounds_toArray, List.set_cons_zero, List.set_cons_succ]
      refine take_load 9 (some 47) (lc l0 l1 l2 l3 l4) rfl (by kernel_rfl) (by kernel_rfl) (by kernel_rfl) (fun _ _ _ h => h) rfl rfl 41 _ rfl (w.heap.size + 1) rfl 41 _ (fun w h => F1.chg h (by simp)) Try.underlying41 rfl (by first | exact feInfo | kernel_rfl) hHeld ?_
      try simp only [Act.put, List.setIfInBounds_toArray, List.set_cons_zero, List.set_cons_succ]
      refine wpAnyH_ready (rs := [6]) (by kernel_rfl) (by simp) ?_
      refine AllReadyH.cons (o := _) rfl (fun K hK => ?_) ?_
      ·
        go_simp
        refine (Join_n l0 l1 l2 l3 l4 j rl0 rl1 rl2 rl3 rl4 hj _).mono ?_
        rintro e q3 ⟨rfl, k⟩
        go_wp2_with fail
        refine hK.out _ _ (hHeld.trans1 k) (fun hHeld => ?_)
        clear hK K
        try simp only [Act.put, List.setIfInBounds_toArray, List.set_cons_zero, List.set_cons_succ]
        refine wpAnyH_ready (rs := [7]) (by kernel_rfl) (by simp) ?_
        refine AllReadyH.cons (o := _) rfl (fun K hK => ?_) ?_
        ·
          go_simp
          refine (Split_fe j rj _).mono ?_
          rintro e q4 ⟨⟨n0, n1, n2, n3, n4, rfl, ⟨e0, e1, e2, e3, e4⟩, hn⟩, k⟩
          have hnn : Hid (V n0 n1 n2 n3 n4 % P = j) := by rw [hn, Int.emod_emod_of_dvd _ (Int.dvd_refl P)]; exact hjj
          clear hn
          go_wp2_with fail
          refine hK.out _ _ (hHeld.trans1 k) (fun hHeld => ?_)
          clear hK K
          try simp only [Act.put, List.setIfInBounds_toArray, List.set_cons_zero, List.set_cons_succ]
          refine wpAnyH_ready (rs := [8]) (by kernel_rfl) (by simp) ?_
          refine AllReadyH.cons (o := _) rfl (fun K hK => ?_) ?_
          ·
            go_simp
            refine (Join_n n0 n1 n2 n3 n4 j (Li.wo e0) (Li.wo e1) (Li.wo e2) (Li.wo e3) (Li.wo e4) hnn _).mono ?_
            rintro e q5 ⟨rfl, k⟩
            go_wp2_with fail
            refine hK.out _ _ (hHeld.trans1 k) (fun hHeld => ?_)
            clear hK K
            try simp only [Act.put, List.setIfInBounds_toArray, List.set_cons_zero, List.set_cons_succ]
            refine wpAnyH_ready (rs := [10]) (by kernel_rfl) (by simp) ?_
            refine AllReadyH.cons (o := _) rfl (fun K hK => ?_) ?_
            ·
              go_simp
              refine (Join_n l0 l1 l2 l3 l4 j rl0 rl1 rl2 rl3 rl4 hj _).mono ?_
              rintro e q6 ⟨rfl, k⟩
              go_wp2_with fail
              refine hK.out _ _ (hHeld.trans1 k) (fun hHeld => ?_)
              clear hK K
              try simp only [Act.put, List.setIfInBounds_toArray, List.set_cons_zero, List.set_cons_succ]
              refine take_val (v := (.bool true)) 11 (some 49) rfl (by kernel_rfl) (by kernel_rfl) (by kernel_rfl) (fun _ _ _ h => h) rfl rfl (fun w hSw => ?_) hHeld ?_
              · (go_simp; try with_reducible rfl)
              try simp only [Act.put, List.setIfInBounds_toArray, List.set_cons_zero, List.set_cons_succ]
              refine take_val (v := (.bool true)) 12 (some 50) rfl (by kernel_rfl) (by kernel_rfl) (by kernel_rfl) (fun _ _ _ h => h) rfl rfl (fun w hSw => ?_) hHeld ?_
              · (go_simp; try with_reducible rfl)
              try simp only [Act.put, List.setIfInBounds_toArray, List.set_cons_zero, List.set_cons_succ]
              refine take_val (v := (.bool true)) 13 (some 51) rfl (by kernel_rfl) (by kernel_rfl) (by kernel_rfl) (fun _ _ _ h => h) rfl rfl (fun w hSw => ?_) hHeld ?_
              · (go_simp; try with_reducible rfl)
              try simp only [Act.put, List.setIfInBounds_toArray, List.set_cons_zero, List.set_cons_succ]
              refine take_val (v := (.int .i64 0)) 14 (some 52) rfl (by kernel_rfl) (by kernel_rfl) (by kernel_rfl) (fun _ _ _ h => h) rfl rfl (fun w hSw => ?_) hHeld ?_
              · (go_simp; try with_reducible rfl)
              try simp only [Act.put, List.setIfInBounds_toArray, List.set_cons_zero, List.set_cons_succ]
              refine wpAnyH_ready (rs := [15]) (by kernel_rfl) (by simp) ?_
              refine AllReadyH.cons (o := _) rfl (fun K hK => ?_) ?_
              ·
                go_simp
                refine (num_0 _).mono ?_
                rintro e q7 ⟨rfl, k⟩
                go_wp2_with fail
                refine hK.out _ _ (hHeld.trans1 k) (fun hHeld => ?_)
                clear hK K
                try simp only [Act.put, List.setIfInBounds_toArray, List.set_cons_zero, List.set_cons_succ]
                refine take_val (v := (.bool true)) 16 (some 54) rfl (by kernel_rfl) (by kernel_rfl) (by kernel_rfl) (fun _ _ _ h => h) rfl rfl (fun w hSw => ?_) hHeld ?_
                · (go_simp; try with_reducible rfl)
                try simp only [Act.put, List.setIfInBounds_toArray, List.set_cons_zero, List.set_cons_succ]
                refine take_val (v := (.bool true)) 17 (some 55) rfl (by kernel_rfl) (by kernel_rfl) (by kernel_rfl) (fun _ _ _ h => h) rfl rfl (fun w hSw => ?_) hHeld ?_
                · (go_simp; try with_reducible rfl)
                try simp only [Act.put, List.setIfInBounds_toArray, List.set_cons_zero, List.set_cons_succ]
                refine take_val (v := (.bool true)) 18 (some 56) rfl (by kernel_rfl) (by kernel_rfl) (by kernel_rfl) (fun _ _ _ h => h) rfl rfl (fun w hSw => ?_) hHeld ?_
                · (go_simp; try with_reducible rfl)
                try simp only [Act.put, List.setIfInBounds_toArray, List.set_cons_zero, List.set_cons_succ]
                refine take_load 19 (some 57) (feC r) rfl (by kernel_rfl) (by kernel_rfl) (by kernel_rfl) (fun _ _ _ h => h) rfl rfl 23 _ rfl y4.heap.size rfl 23 _ (fun w h => F10.chg h (by simp)) Try.underlying23 rfl (by first | exact feInfo | kernel_rfl) hHeld ?_
                try simp only [Act.put, List.setIfInBounds_toArray, List.set_cons_zero, List.set_cons_succ]
                refine take_load 20 (some 58) (feC r) rfl (by kernel_rfl) (by kernel_rfl) (by kernel_rfl) (fun _ _ _ h => h) rfl rfl 23 _ rfl y3.heap.size rfl 23 _ (fun w h => F9.chg h (by simp)) Try.underlying23 rfl (by first | exact feInfo | kernel_rfl) hHeld ?_
                try simp only [Act.put, List.setIfInBounds_toArray, List.set_cons_zero, List.set_cons_succ]
                refine take_val (v := (.bool true)) 21 (some 59) rfl (by kernel_rfl) (by kernel_rfl) (by kernel_rfl) (fun _ _ _ h => h) rfl rfl (fun w hSw => ?_) hHeld ?_
                · (go_simp; try with_reducible rfl)
                try simp only [Act.put, List.setIfInBounds_toArray, List.set_cons_zero, List.set_cons_succ]
                refine take_val (v := (.bool true)) 22 (some 60) rfl (by kernel_rfl) (by kernel_rfl) (by kernel_rfl) (fun _ _ _ h => h) rfl rfl (fun w hSw => ?_) hHeld ?_
                · (go_simp; try with_reducible rfl)
                try simp only [Act.put, List.setIfInBounds_toArray, List.set_cons_zero, List.set_cons_succ]
                refine take_val (v := (.bool true)) 23 (some 61) rfl (by kernel_rfl) (by kernel_rfl) (by kernel_rfl) (fun _ _ _ h => h) rfl rfl (fun w hSw => ?_) hHeld ?_
                · (go_simp; try with_reducible rfl)
                try simp only [Act.put, List.setIfInBounds_toArray, List.set_cons_zero, List.set_cons_succ]
                refine take_val (v := (.int .i64 11)) 24 (some 62) rfl (by kernel_rfl) (by kernel_rfl) (by kernel_rfl) (fun _ _ _ h => h) rfl rfl (fun w hSw => ?_) hHeld ?_
                · (go_simp; try with_reducible rfl)
                try simp only [Act.put, List.setIfInBounds_toArray, List.set_cons_zero, List.set_cons_succ]
                refine take_load 27 (some 65) (feC a) rfl (by kernel_rfl) (by kernel_rfl) (by kernel_rfl) (fun _ _ _ h => h) rfl rfl 23 _ rfl w.heap.size rfl 23 _ (fun w h => F0.chg h (by simp)) Try.underlying23 rfl (by first | exact feInfo | kernel_rfl) hHeld ?_
                try simp only [Act.put, List.setIfInBounds_toArray, List.set_cons_zero, List.set_cons_succ]
                refine wpAnyH_ready (rs := [25]) (by kernel_rfl) (by simp) ?_
                refine AllReadyH.cons (o := _) rfl (fun K hK => ?_) ?_
                ·
                  go_simp
                  refine (num_11 _).mono ?_
                  rintro e q8 ⟨rfl, k⟩
                  go_wp2_with fail
                  refine hK.out _ _ (hHeld.trans1 k) (fun hHeld => ?_)
                  clear hK K
                  try simp only [Act.put, List.setIfInBounds_toArray, List.set_cons_zero, List.set_cons_succ]
                  refine take_val (v := (.bool false)) 26 (some 64) rfl (by kernel_rfl) (by kernel_rfl) (by kernel_rfl) (fun _ _ _ h => h) rfl rfl (fun w hSw => ?_) hHeld ?_
                  · (go_simp; try with_reducible rfl)
                  try simp only [Act.put, List.setIfInBounds_toArray, List.set_cons_zero, List.set_cons_succ]
                  refine wpAnyH_ready (rs := [28]) (by kernel_rfl) (by simp) ?_
                  refine AllReadyH.cons (o := _) rfl (fun K hK => ?_) ?_
                  ·
                    go_simp
                    refine (Canon_b a ra false hc _).mono ?_
                    rintro e q10 ⟨rfl, k⟩
                    go_wp2_with fail
                    refine hK.out _ _ (hHeld.trans1 k) (fun hHeld => ?_)
                    clear hK K
                    try simp only [Act.put, List.setIfInBounds_toArray, List.set_cons_zero, List.set_cons_succ]
                    refine take_val (v := (.bool true)) 29 (some 67) rfl (by kernel_rfl) (by kernel_rfl) (by kernel_rfl) (fun _ _ _ h => h) rfl rfl (fun w hSw => ?_) hHeld ?_
                    · (go_simp; try with_reducible rfl)
                    try simp only [Act.put, List.setIfInBounds_toArray, List.set_cons_zero, List.set_cons_succ]
                    refine take_val (v := (.bool true)) 30 (some 68) rfl (by kernel_rfl) (by kernel_rfl) (by kernel_rfl) (fun _ _ _ h => h) rfl rfl (fun w hSw => ?_) hHeld ?_
                    · (go_simp; try with_reducible rfl)
                    try simp only [Act.put, List.setIfInBounds_toArray, List.set_cons_zero, List.set_cons_succ]
                    refine take_val (v := (.bool true)) 31 (some 69) rfl (by kernel_rfl) (by kernel_rfl) (by kernel_rfl) (fun _ _ _ h => h) rfl rfl (fun w hSw => ?_) hHeld ?_
                    · (go_simp; try with_reducible rfl)
                    try simp only [Act.put, List.setIfInBounds_toArray, List.set_cons_zero, List.set_cons_succ]
                    refine take_val (v := (.int .i64 11)) 32 (some 70) rfl (by kernel_rfl) (by kernel_rfl) (by kernel_rfl) (fun _ _ _ h => h) rfl rfl (fun w hSw => ?_) hHeld ?_
                    · (go_simp; try with_reducible rfl)
                    try simp only [Act.put, List.setIfInBounds_toArray, List.set_cons_zero, List.set_cons_succ]
                    refine wpAnyH_ready (rs := [33]) (by kernel_rfl) (by simp) ?_
                    refine AllReadyH.cons (o := _) rfl (fun K hK => ?_) ?_
                    ·
                      go_simp
                      refine (num_11 _).mono ?_
                      rintro e q9 ⟨rfl, k⟩
                      go_wp2_with fail
                      refine hK.out _ _ (hHeld.trans1 k) (fun hHeld => ?_)
                      clear hK K
                      try simp only [Act.put, List.setIfInBounds_toArray, List.set_cons_zero, List.set_cons_succ]
                      refine take_val (v := (.bool true)) 34 (some 72) rfl (by kernel_rfl) (by kernel_rfl) (by kernel_rfl) (fun _ _ _ h => h) rfl rfl (fun w hSw => ?_) hHeld ?_
                      · (go_simp; try with_reducible rfl)
                      try simp only [Act.put, List.setIfInBounds_toArray, List.set_cons_zero, List.set_cons_succ]
                      refine take_val (v := (.bool true)) 35 (some 73) rfl (by kernel_rfl) (by kernel_rfl) (by kernel_rfl) (fun _ _ _ h => h) rfl rfl (fun w hSw => ?_) hHeld ?_
                      · (go_simp; try with_reducible rfl)
                      try simp only [Act.put, List.setIfInBounds_toArray, List.set_cons_zero, List.set_cons_succ]
                      refine take_no 36 (some 74) rfl (by kernel_rfl) (by kernel_rfl) (by kernel_rfl) (fun _ _ _ h => h) rfl rfl hHeld ?_
                      try simp only [Act.put, List.setIfInBounds_toArray, List.set_cons_zero, List.set_cons_succ]
                      refine take_no 37 (some 75) rfl (by kernel_rfl) (by kernel_rfl) (by kernel_rfl) (fun _ _ _ h => h) rfl rfl hHeld ?_
                      try simp only [Act.put, List.setIfInBounds_toArray, List.set_cons_zero, List.set_cons_succ]
                      refine take_no 38 (some 76) rfl (by kernel_rfl) (by kernel_rfl) (by kernel_rfl) (fun _ _ _ h => h) rfl rfl hHeld ?_
                      try simp only [Act.put, List.setIfInBounds_toArray, List.set_cons_zero, List.set_cons_succ]
                      refine take_val (v := (.bool true)) 39 (some 77) rfl (by kernel_rfl) (by kernel_rfl) (by kernel_rfl) (fun _ _ _ h => h) rfl rfl (fun w hSw => ?_) hHeld ?_
                      · (go_simp; try with_reducible rfl)
                      try simp only [Act.put, List.setIfInBounds_toArray, List.set_cons_zero, List.set_cons_succ]
                      refine take_val (v := (.bool true)) 40 (some 78) rfl (by kernel_rfl) (by kernel_rfl) (by kernel_rfl) (fun _ _ _ h => h) rfl rfl (fun w hSw => ?_) hHeld ?_
                      · (go_simp; try with_reducible rfl)
                      try simp only [Act.put, List.setIfInBounds_toArray, List.set_cons_zero, List.set_cons_succ]
                      refine take_val (v := (.bool true)) 41 (some 79) rfl (by kernel_rfl) (by kernel_rfl) (by kernel_rfl) (fun _ _ _ h => h) rfl rfl (fun w hSw => ?_) hHeld ?_
                      · (go_simp; try with_reducible rfl)
                      try simp only [Act.put, List.setIfInBounds_toArray, List.set_cons_zero, List.set_cons_succ]
                      refine take_load 42 (some 80) (feC a) rfl (by kernel_rfl) (by kernel_rfl) (by kernel_rfl) (fun _ _ _ h => h) rfl rfl 23 _ rfl w.heap.size rfl 23 _ (fun w h => F0.chg h (by simp)) Try.underlying23 rfl (by first | exact feInfo | kernel_rfl) hHeld ?_
                      try simp only [Act.put, List.setIfInBounds_toArray, List.set_cons_zero, List.set_cons_succ]
                      refine take_val (v := (.slice (some ⟨w.heap.size, 0, none⟩) 32 32)) 44 (some 82) rfl (by kernel_rfl) (by kernel_rfl) (by kernel_rfl) (fun _ _ _ h => h) rfl rfl (fun w hSw => ?_) hHeld ?_
                      · (go_simp; try with_reducible rfl)
                      try simp only [Act.put, List.setIfInBounds_toArray, List.set_cons_zero, List.set_cons_succ]
                      refine take_load 46 (some 84) (feC a) rfl (by kernel_rfl) (by kernel_rfl) (by kernel_rfl) (fun _ _ _ h => h) rfl rfl 23 _ rfl w.heap.size rfl 23 _ (fun w h => F0.chg h (by simp)) Try.underlying23 rfl (by first | exact feInfo | kernel_rfl) hHeld ?_
                      try simp only [Act.put, List.setIfInBounds_toArray, List.set_cons_zero, List.set_cons_succ]
                      refine wpAnyH_ready (rs := [43]) (by kernel_rfl) (by simp) ?_
                      refine AllReadyH.cons (o := _) rfl (fun K hK => ?_) ?_
                      ·
                        go_simp
                        refine (Canon_b a ra false hc _).mono ?_
                        rintro e q11 ⟨rfl, k⟩
                        go_wp2_with fail
                        refine hK.out _ _ (hHeld.trans1 k) (fun hHeld => ?_)
                        clear hK K
                        try simp only [Act.put, List.setIfInBounds_toArray, List.set_cons_zero, List.set_cons_succ]
                        refine wpAnyH_ready (rs := [45]) (by kernel_rfl) (by simp) ?_
                        refine AllReadyH.cons (o := _) rfl (fun K hK => ?_) ?_
                        ·
                          go_simp
                          refine (Reduce_n w.heap.size a c ra hca _ _ (F0.chg hHeld (by simp))).mono ?_
                          rintro e q12 ⟨rfl, k⟩
                          go_wp2_with fail
                          refine hK.out _ _ (hHeld.trans1 k) (fun hHeld => ?_)
                          clear hK K
                          try simp only [Act.put, List.setIfInBounds_toArray, List.set_cons_zero, List.set_cons_succ]
                          refine take_val (v := (.bool false)) 47 (some 85) rfl (by kernel_rfl) (by kernel_rfl) (by kernel_rfl) (fun _ _ _ h => h) rfl rfl (fun w hSw => ?_) hHeld ?_
                          · (go_simp; try with_reducible rfl)
                          try simp only [Act.put, List.setIfInBounds_toArray, List.set_cons_zero, List.set_cons_succ]
                          refine take_val (v := (.bool true)) 48 (some 86) rfl (by kernel_rfl) (by kernel_rfl) (by kernel_rfl) (fun _ _ _ h => h) rfl rfl (fun w hSw => ?_) hHeld ?_
                          · (go_simp; try with_reducible rfl)
                          try simp only [Act.put, List.setIfInBounds_toArray, List.set_cons_zero, List.set_cons_succ]
                          refine take_val (v := (.bool true)) 49 (some 87) rfl (by kernel_rfl) (by kernel_rfl) (by kernel_rfl) (fun _ _ _ h => h) rfl rfl (fun w hSw => ?_) hHeld ?_
                          · (go_simp; try with_reducible rfl)
                          try simp only [Act.put, List.setIfInBounds_toArray, List.set_cons_zero, List.set_cons_succ]
                          refine take_val (v := (.bool true)) 50 (some 6) rfl (by kernel_rfl) (by kernel_rfl) (by kernel_rfl) (fun _ _ _ h => h) rfl rfl (fun w hSw => ?_) hHeld ?_
                          · (go_simp; try with_reducible rfl)
                          try simp only [Act.put, List.setIfInBounds_toArray, List.set_cons_zero, List.set_cons_succ]
                          refine wpAnyH_done (by kernel_rfl) ?_ _
                          go_wp2
                          go_ret
                          exact ⟨rfl, CC.trans1 hHeld⟩
                        exact AllReadyH.nil
                      exact AllReadyH.nil
                    exact AllReadyH.nil
                  exact AllReadyH.nil
                exact AllReadyH.nil
              exact AllReadyH.nil
            exact AllReadyH.nil
          exact AllReadyH.nil
        exact AllReadyH.nil
      exact AllReadyH.nil
    exact AllReadyH.nil
  exact AllReadyH.nil
end Go.Proofs.Ytialljmkkichiab
