/- FieldLimbs: the walk. -/
import Derived.Test.YtialljmkkichiaaRSplit
import Derived.Test.YtialljmkkichiaaRJoin
import Derived.Test.YtialljmkkichiaaAlive
set_option linter.unusedVariables false
set_option linter.unusedSimpArgs false
set_option linter.unnecessarySimpa false
namespace Go.Proofs.Ytialljmkkichiaa
open Go.RowKit N

/-- The five limbs of a number, under a name. -/
def spf (a : Int) : Nat → Nat := lf (rd a) 255
theorem Split_f8 (a : Int) (ra : R256 a) (w : World) : Calls Try.prog 57 #[fe a] w fun e w' => e = .returned (.agg (uC 5 (spf a))) ∧ Chg w w' [] := Split_lim a ra w
theorem Split_r8 (a : Int) (ra : R256 a) (w : World) : Calls Try.prog 58 #[fe a] w fun e w' => e = .returned (.agg (uC 5 (spf a))) ∧ Chg w w' [] := Split_r a ra w
theorem limGuard : Try.prog.eqGuardType Try.prog.depth 71 = false := by kernel_rfl
@[go_sem] theorem eq_lim (f : Nat → Nat) (w : World) : (Op.equalIn 10000 71 (.agg (uC 5 f)) (.agg (uC 5 f))).run Try.prog w = .ok true w := by
  obtain ⟨i, hi⟩ := u64InfoS
  rw [show (10000 : Nat) = 9998 + 1 + 1 from rfl, run_equalIn_array w 9999 _ _ Try.underlying71 hi, u64Cells1]
  have h := eqItems_ints w 9998 Try.underlying25 (uC 5 f) (uC 5 f) (fun i => ((f i : Nat) : Int)) (fun i => ((f i : Nat) : Int)) (List.range 5) (fun j hj => ⟨uC_get 5 _ j (by simpa using hj), uC_get 5 _ j (by simpa using hj)⟩)
  rw [h]
  simp
/-- Five numbers, by their place. -/
def lfn (n0 n1 n2 n3 n4 : Nat) : Nat → Nat
  | 0 => n0
  | 1 => n1
  | 2 => n2
  | 3 => n3
  | _ => n4
theorem lfn_lc (n0 n1 n2 n3 n4 : Nat) : lc (n0 : Int) (n1 : Int) (n2 : Int) (n3 : Int) (n4 : Int) = uC 5 (lfn n0 n1 n2 n3 n4) := rfl
theorem tv_V (n0 n1 n2 n3 n4 : Nat) : V (n0 : Int) (n1 : Int) (n2 : Int) (n3 : Int) (n4 : Int) = ((tv (lfn n0 n1 n2 n3 n4) 5 : Nat) : Int) := by
  have e : tv (lfn n0 n1 n2 n3 n4) 5 = 0 + n0 * 1 + n1 * 2251799813685248 + n2 * 5070602400912917605986812821504 + n3 * 11417981541647679048466287755595961091061972992 + n4 * 25711008708143844408671393477458601640355247900524685364822016 := rfl
  rw [e]
  unfold V
  omega
theorem Join_f8 (n0 n1 n2 n3 n4 : Nat) (h0 : Wo (n0 : Int)) (h1 : Wo (n1 : Int)) (h2 : Wo (n2 : Int)) (h3 : Wo (n3 : Int)) (h4 : Wo (n4 : Int)) (w : World) :
    Calls Try.prog 59 #[.agg (uC 5 (lfn n0 n1 n2 n3 n4))] w fun e w' => e = .returned (fe ((tvm (lfn n0 n1 n2 n3 n4) 5 : Nat) : Int)) ∧ Chg w w' [] := by
  have h := Join_fe n0 n1 n2 n3 n4 h0 h1 h2 h3 h4 w
  rw [tv_V, ← PM_eq, ← Int.natCast_emod] at h
  exact h

set_option maxHeartbeats 16000000 in
set_option maxRecDepth 100000 in
theorem limbs_walk (a : Int) (ra : R256 a) (f : Nat → Nat) (j : Int) (w : World)
    (hF : ∀ w, Calls Try.prog 59 #[.agg (uC 5 f)] w fun e w' => e = .returned (fe j) ∧ Chg w w' []) (hR : ∀ w, Calls Try.prog 60 #[.agg (uC 5 f)] w fun e w' => e = .returned (fe j) ∧ Chg w w' []) :
    Calls Try.prog 8 #[fe a, .agg (uC 5 f)] w fun e w' => e = .returned (.bool true) ∧ Chg w w' [] := by
  have hge := feGuard
  have hgl := limGuard
  have F0 : Blk ((w.alloc (.cells (feC a) 24)).alloc (.cells (uC 5 f) 71)) w.heap.size (feC a) 24 := (Blk.new w (feC a) 24).alloc _
  have F1 : Blk ((w.alloc (.cells (feC a) 24)).alloc (.cells (uC 5 f) 71)) (w.heap.size + 1) (uC 5 f) 71 := by have h := Blk.new (w.alloc (.cells (feC a) 24)) (uC 5 f) 71; simpa using h
  have CC := ((Chg.refl w []).alloc (.cells (feC a) 24)).alloc (.cells (uC 5 f) 71)
  go_enter Try.func8, Try.ntmps8
  go_wp2_with fail
  generalize hv0 : ((w.alloc (.cells (feC a) 24)).alloc (.cells (uC 5 f) 71)) = v0 at F0 F1 CC
  try (change Code.wp _ _ _ _ ((w.alloc (.cells (feC a) 24)).alloc (.cells (uC 5 f) 71)); rw [hv0])
  clear hv0
  refine wp_region_held_drew (S := fun w' => Chg v0 w' []) (by kernel_rfl) ((Chg.refl v0 []).drew) (fun hHeld => ?_)
  refine take_load 0 (some 5) (feC a) rfl (by kernel_rfl) (by kernel_rfl) (by kernel_rfl) (fun _ _ _ h => h) rfl rfl 24 _ rfl w.heap.size rfl 24 _ (fun w h => F0.chg h (by simp)) Try.underlying24 rfl (by first | exact feInfo | kernel_rfl) hHeld ?_
  try simp only [Act.put, List.setIfInBounds_toArray, List.set_cons_zero, List.set_cons_succ]
  refine take_load 2 (some 7) (feC a) rfl (by kernel_rfl) (by kernel_rfl) (by kernel_rfl) (fun _ _ _ h => h) rfl rfl 24 _ rfl w.heap.size rfl 24 _ (fun w h => F0.chg h (by simp)) Try.underlying24 rfl (by first | exact feInfo | kernel_rfl) hHeld ?_
  try simp only [Act.put, List.setIfInBounds_toArray, List.set_cons_zero, List.set_cons_succ]
  refine wpAnyH_ready (rs := [1]) (by kernel_rfl) (by simp) ?_
  refine AllReadyH.cons (o := _) rfl (fun K hK => ?_) ?_
  ·
    go_simp
    refine (Split_f8 a ra _).mono ?_
    rintro e x1 ⟨rfl, k⟩
    go_wp2_with fail
    refine hK.out _ _ (hHeld.trans1 k) (fun hHeld => ?_)
    clear hK K
    try simp only [Act.put, List.setIfInBounds_toArray, List.set_cons_zero, List.set_cons_succ]
    refine wpAnyH_ready (rs := [3]) (by kernel_rfl) (by simp) ?_
    refine AllReadyH.cons (o := _) rfl (fun K hK => ?_) ?_
    ·
      go_simp
      refine (Split_r8 a ra _).mono ?_
      rintro e x3 ⟨rfl, k⟩
      go_wp2_with fail
      refine hK.out _ _ (hHeld.trans1 k) (fun hHeld => ?_)
      clear hK K
      try simp only [Act.put, List.setIfInBounds_toArray, List.set_cons_zero, List.set_cons_succ]
      refine take_val (v := (.bool true)) 4 (some 9) rfl (by kernel_rfl) (by kernel_rfl) (by kernel_rfl) (fun _ _ _ h => h) rfl rfl (fun w hSw => ?_) hHeld ?_
      · (go_simp; try with_reducible rfl)
      try simp only [Act.put, List.setIfInBounds_toArray, List.set_cons_zero, List.set_cons_succ]
      refine take_val (v := (.bool true)) 5 (some 10) rfl (by kernel_rfl) (by kernel_rfl) (by kernel_rfl) (fun _ _ _ h => h) rfl rfl (fun w hSw => ?_) hHeld ?_
      · (go_simp; try with_reducible rfl)
      try simp only [Act.put, List.setIfInBounds_toArray, List.set_cons_zero, List.set_cons_succ]
      refine take_load 6 (some 11) (uC 5 f) rfl (by kernel_rfl) (by kernel_rfl) (by kernel_rfl) (fun _ _ _ h => h) rfl rfl 71 _ rfl (w.heap.size + 1) rfl 71 _ (fun w h => F1.chg h (by simp)) Try.underlying71 rfl (by first | exact feInfo | kernel_rfl) hHeld ?_
      try simp only [Act.put, List.setIfInBounds_toArray, List.set_cons_zero, List.set_cons_succ]
      refine take_load 8 (some 13) (uC 5 f) rfl (by kernel_rfl) (by kernel_rfl) (by kernel_rfl) (fun _ _ _ h => h) rfl rfl 71 _ rfl (w.heap.size + 1) rfl 71 _ (fun w h => F1.chg h (by simp)) Try.underlying71 rfl (by first | exact feInfo | kernel_rfl) hHeld ?_
      try simp only [Act.put, List.setIfInBounds_toArray, List.set_cons_zero, List.set_cons_succ]
      refine wpAnyH_ready (rs := [7]) (by kernel_rfl) (by simp) ?_
      refine AllReadyH.cons (o := _) rfl (fun K hK => ?_) ?_
      ·
        go_simp
        refine (hF _).mono ?_
        rintro e x7 ⟨rfl, k⟩
        go_wp2_with fail
        refine hK.out _ _ (hHeld.trans1 k) (fun hHeld => ?_)
        clear hK K
        try simp only [Act.put, List.setIfInBounds_toArray, List.set_cons_zero, List.set_cons_succ]
        refine wpAnyH_ready (rs := [9]) (by kernel_rfl) (by simp) ?_
        refine AllReadyH.cons (o := _) rfl (fun K hK => ?_) ?_
        ·
          go_simp
          refine (hR _).mono ?_
          rintro e x9 ⟨rfl, k⟩
          go_wp2_with fail
          refine hK.out _ _ (hHeld.trans1 k) (fun hHeld => ?_)
          clear hK K
          try simp only [Act.put, List.setIfInBounds_toArray, List.set_cons_zero, List.set_cons_succ]
          refine take_val (v := (.bool true)) 10 (some 15) rfl (by kernel_rfl) (by kernel_rfl) (by kernel_rfl) (fun _ _ _ h => h) rfl rfl (fun w hSw => ?_) hHeld ?_
          · (go_simp; try with_reducible rfl)
          try simp only [Act.put, List.setIfInBounds_toArray, List.set_cons_zero, List.set_cons_succ]
          refine take_val (v := (.bool true)) 11 (some 16) rfl (by kernel_rfl) (by kernel_rfl) (by kernel_rfl) (fun _ _ _ h => h) rfl rfl (fun w hSw => ?_) hHeld ?_
          · (go_simp; try with_reducible rfl)
          try simp only [Act.put, List.setIfInBounds_toArray, List.set_cons_zero, List.set_cons_succ]
          refine take_val (v := (.bool true)) 12 (some 17) rfl (by kernel_rfl) (by kernel_rfl) (by kernel_rfl) (fun _ _ _ h => h) rfl rfl (fun w hSw => ?_) hHeld ?_
          · (go_simp; try with_reducible rfl)
          try simp only [Act.put, List.setIfInBounds_toArray, List.set_cons_zero, List.set_cons_succ]
          refine wpAnyH_ready (rs := [13]) (by kernel_rfl) (by simp) ?_
          refine AllReadyH.cons (o := _) rfl (fun K hK => ?_) ?_
          ·
            go_simp
            refine (alive_true _).mono ?_
            rintro e x13 ⟨rfl, k⟩
            go_wp2_with fail
            refine hK.out _ _ (hHeld.trans1 k) (fun hHeld => ?_)
            clear hK K
            try simp only [Act.put, List.setIfInBounds_toArray, List.set_cons_zero, List.set_cons_succ]
            refine take_val (v := (.bool true)) 14 (some 19) rfl (by kernel_rfl) (by kernel_rfl) (by kernel_rfl) (fun _ _ _ h => h) rfl rfl (fun w hSw => ?_) hHeld ?_
            · (go_simp; try with_reducible rfl)
            try simp only [Act.put, List.setIfInBounds_toArray, List.set_cons_zero, List.set_cons_succ]
            refine take_val (v := (.bool true)) 15 (some 4) rfl (by kernel_rfl) (by kernel_rfl) (by kernel_rfl) (fun _ _ _ h => h) rfl rfl (fun w hSw => ?_) hHeld ?_
            · (go_simp; try with_reducible rfl)
            try simp only [Act.put, List.setIfInBounds_toArray, List.set_cons_zero, List.set_cons_succ]
            refine wpAnyH_done (by kernel_rfl) ?_ _
            go_wp2
            go_ret
            exact ⟨rfl, CC.trans1 hHeld⟩
          exact AllReadyH.nil
        exact AllReadyH.nil
      exact AllReadyH.nil
    exact AllReadyH.nil
  exact AllReadyH.nil
end Go.Proofs.Ytialljmkkichiaa
