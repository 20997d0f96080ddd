/- scalar.Compare. -/
import Derived.Test.YtcdgkhejbdlapabDec
set_option linter.unusedVariables false
set_option linter.unusedSimpArgs false
set_option linter.unnecessarySimpa false
namespace Go.Proofs.Ytcdgkhejbdlapab
open Go.RowKit N

theorem cmp_words (n m : Int) (p : Nat) (rn : RL n) (rm : RL m) (hp : p < 4) (hq : ∀ j, j < 4 → p < j → wrd n j = wrd m j) (hE : ¬ wrd n p = wrd m p) : cmpI (wrd n p) (wrd m p) = cmpI n m := by
  have e1 := wrd_sum n rn.1 (by unfold RL at rn; omega)
  have e2 := wrd_sum m rm.1 (by unfold RL at rm; omega)
  have p0 := wrd_wo n 0; have p1 := wrd_wo n 1; have p2 := wrd_wo n 2; have p3 := wrd_wo n 3
  have q0 := wrd_wo m 0; have q1 := wrd_wo m 1; have q2 := wrd_wo m 2; have q3 := wrd_wo m 3
  unfold cmpI
  have h4 : p = 0 ∨ p = 1 ∨ p = 2 ∨ p = 3 := by omega
  have h1 := hq 1 (by omega); have h2 := hq 2 (by omega); have h3 := hq 3 (by omega)
  clear hq
  unfold Wo at *
  rcases h4 with rfl | rfl | rfl | rfl <;> simp only [Nat.lt_irrefl, Nat.lt_add_one, Nat.zero_lt_succ, Nat.reduceLT, forall_const] at h1 h2 h3 <;>
  · generalize wrd n 0 = a0 at *; generalize wrd n 1 = a1 at *; generalize wrd n 2 = a2 at *; generalize wrd n 3 = a3 at *
    generalize wrd m 0 = b0 at *; generalize wrd m 1 = b1 at *; generalize wrd m 2 = b2 at *; generalize wrd m 3 = b3 at *
    split <;> split <;> (try split) <;> (try split) <;> omega
set_option maxHeartbeats 4000000 in
set_option maxRecDepth 100000 in
theorem Compare_s (a b : Int) (ra : R256 a) (rb : R256 b) (w : World) :
    Calls Try.prog 14 #[fe a, fe b] w fun e w' => e = .returned (.int .i64 (cmpI (a % L) (b % L))) ∧ Chg w w' [] := by
  have rn := rl_mod a
  have rm := rl_mod b
  obtain ⟨n, hn⟩ : ∃ n, a % L = n := ⟨_, rfl⟩
  obtain ⟨m, hm⟩ : ∃ m, b % L = m := ⟨_, rfl⟩
  rw [hn] at rn
  rw [hm] at rm
  rw [hn, hm]
  have HN : Hid (a % L = n) := hn
  have HM : Hid (b % L = m) := hm
  clear hn hm
  go_enter Try.func14, Try.ntmps14
  go_wp2_with fail
  have hc : Chg w ((((w.alloc (.cells (feC a) 23)).alloc (.cells (feC b) 23)).alloc (.cells #[.int .u64 0, .int .u64 0, .int .u64 0, .int .u64 0] 84)).alloc (.cells #[.int .u64 0, .int .u64 0, .int .u64 0, .int .u64 0] 84)) [] := (((((Chg.refl w []).alloc (.cells (feC a) 23)).alloc (.cells (feC b) 23)).alloc (.cells #[.int .u64 0, .int .u64 0, .int .u64 0, .int .u64 0] 84)).alloc (.cells #[.int .u64 0, .int .u64 0, .int .u64 0, .int .u64 0] 84))
  have f0 : Blk ((((w.alloc (.cells (feC a) 23)).alloc (.cells (feC b) 23)).alloc (.cells #[.int .u64 0, .int .u64 0, .int .u64 0, .int .u64 0] 84)).alloc (.cells #[.int .u64 0, .int .u64 0, .int .u64 0, .int .u64 0] 84)) w.heap.size (feC a) 23 := by have h := ((((Blk.new w (feC a) 23).alloc (.cells (feC b) 23)).alloc (.cells #[.int .u64 0, .int .u64 0, .int .u64 0, .int .u64 0] 84)).alloc (.cells #[.int .u64 0, .int .u64 0, .int .u64 0, .int .u64 0] 84)); simpa using h
  have f1 : Blk ((((w.alloc (.cells (feC a) 23)).alloc (.cells (feC b) 23)).alloc (.cells #[.int .u64 0, .int .u64 0, .int .u64 0, .int .u64 0] 84)).alloc (.cells #[.int .u64 0, .int .u64 0, .int .u64 0, .int .u64 0] 84)) (w.heap.size + 1) (feC b) 23 := by have h := (((Blk.new (w.alloc (.cells (feC a) 23)) (feC b) 23).alloc (.cells #[.int .u64 0, .int .u64 0, .int .u64 0, .int .u64 0] 84)).alloc (.cells #[.int .u64 0, .int .u64 0, .int .u64 0, .int .u64 0] 84)); simpa using h
  have f2 : NumAt ((((w.alloc (.cells (feC a) 23)).alloc (.cells (feC b) 23)).alloc (.cells #[.int .u64 0, .int .u64 0, .int .u64 0, .int .u64 0] 84)).alloc (.cells #[.int .u64 0, .int .u64 0, .int .u64 0, .int .u64 0] 84)) (w.heap.size + 2) 0 := by have h := ((NumAt.new ((w.alloc (.cells (feC a) 23)).alloc (.cells (feC b) 23))).alloc (.cells #[.int .u64 0, .int .u64 0, .int .u64 0, .int .u64 0] 84)); simpa using h
  have f3 : NumAt ((((w.alloc (.cells (feC a) 23)).alloc (.cells (feC b) 23)).alloc (.cells #[.int .u64 0, .int .u64 0, .int .u64 0, .int .u64 0] 84)).alloc (.cells #[.int .u64 0, .int .u64 0, .int .u64 0, .int .u64 0] 84)) (w.heap.size + 3) 0 := by have h := (NumAt.new (((w.alloc (.cells (feC a) 23)).alloc (.cells (feC b) 23)).alloc (.cells #[.int .u64 0, .int .u64 0, .int .u64 0, .int .u64 0] 84))); simpa using h
  generalize hv0 : ((((w.alloc (.cells (feC a) 23)).alloc (.cells (feC b) 23)).alloc (.cells #[.int .u64 0, .int .u64 0, .int .u64 0, .int .u64 0] 84)).alloc (.cells #[.int .u64 0, .int .u64 0, .int .u64 0, .int .u64 0] 84)) = v0 at hc f0 f1 f2 f3
  try (change Calls Try.prog _ _ ((((w.alloc (.cells (feC a) 23)).alloc (.cells (feC b) 23)).alloc (.cells #[.int .u64 0, .int .u64 0, .int .u64 0, .int .u64 0] 84)).alloc (.cells #[.int .u64 0, .int .u64 0, .int .u64 0, .int .u64 0] 84)) _; rw [hv0])
  clear hv0
  refine (load_any (w.heap.size + 2) w.heap.size a ra (by omega) v0 f2.an f0).mono ?_
  rintro e v1 ⟨rfl, q, k⟩
  rw [HN.out] at q
  replace f0 := f0.chg k (by simp)
  replace f1 := f1.chg k (by simp)
  replace f3 := f3.chg k (by simp)
  replace hc := hc.new k (by omega)
  clear f2 k
  have f2 := q
  clear q
  go_wp2_with fail
  refine (load_any (w.heap.size + 3) (w.heap.size + 1) b rb (by omega) v1 f3.an f1).mono ?_
  rintro e v2 ⟨rfl, q, k⟩
  rw [HM.out] at q
  replace f0 := f0.chg k (by simp)
  replace f1 := f1.chg k (by simp)
  replace f2 := f2.chg k (by simp)
  replace hc := hc.new k (by omega)
  clear f3 k
  have f3 := q
  clear q
  go_wp2_with fail
  go_loopw [11] (fun t wr => ∃ k : Nat, k ≤ 4 ∧ t = .int .i64 (k : Int) ∧ NumAt wr (w.heap.size + 2) n ∧ NumAt wr (w.heap.size + 3) m ∧ Chg w wr [] ∧ Hid (∀ j, j < 4 → 4 - k ≤ j → wrd n j = wrd m j)) (fun t _ => (4 - intOf t).toNat)
  case atStart => exact ⟨0, by omega, rfl, f2, f3, hc, show ∀ j, j < 4 → 4 - 0 ≤ j → wrd n j = wrd m j from fun j h1 h2 => by omega⟩
  case round =>
    obtain ⟨k, hk, rfl, r2, r3, r4, r5⟩ := hrel
    clear f0 f1 f2 f3 hc
    by_cases hk4 : k < 4
    · obtain ⟨p, hp⟩ : ∃ p, p + k = 3 := ⟨3 - k, by omega⟩
      have hp4 : p < 4 := by omega
      have hpI : (3 : Int) - (k : Int) = (p : Int) := by omega
      have hpl : (p : Int) < 4 := by omega
      have hkI : (k : Int) < 4 := by omega
      have hq : Hid (∀ j, j < 4 → p < j → wrd n j = wrd m j) := show ∀ j, j < 4 → p < j → wrd n j = wrd m j from fun j h1 h2 => r5.out j h1 (by omega)
      have c2 := (Blk.cell r2 p).trans (wd4_get n p hp4)
      have c3 := (Blk.cell r3 p).trans (wd4_get m p hp4)
      by_cases hE : wrd n p = wrd m p
      · have hn : Hid (∀ j, j < 4 → 4 - (k + 1) ≤ j → wrd n j = wrd m j) := show ∀ j, j < 4 → 4 - (k + 1) ≤ j → wrd n j = wrd m j from fun j h1 h2 => by
          by_cases e : j = p
          · rw [e]; exact hE
          · exact hq.out j h1 (by omega)
        clear r5 hq
        go_wp2_with fail
        go_region
        go_wp2_with fail
        exact ⟨⟨k + 1, by omega, by go_num, r2, r3, r4.drew, hn⟩, by simp [intOf]; omega⟩
      · have HE : Hid (¬ wrd n p = wrd m p) := hE
        have hEb : (wrd n p != wrd m p) = true := by simpa using hE
        go_wp2_with fail
        go_region
        clear hE
        have hE := HE
        go_wp2_with fail
        refine wp_region_held_drew (S := fun w' => Chg wr w' []) (by kernel_rfl) (((Chg.refl wr _).drew).drew) (fun hHeld => ?_)
        refine take_val (v := ?_) 0 (some 23) rfl (by kernel_rfl) (by kernel_rfl) (by kernel_rfl) (fun _ _ _ h => h) rfl rfl (fun w hSw => ?_) hHeld ?_
        rotate_left
        · (go_simp; try with_reducible rfl)
        try simp only [Act.put, List.setIfInBounds_toArray, List.set_cons_zero, List.set_cons_succ]
        refine take_val (v := ?_) 1 (some 24) rfl (by kernel_rfl) (by kernel_rfl) (by kernel_rfl) (fun _ _ _ h => h) rfl rfl (fun w hSw => ?_) hHeld ?_
        rotate_left
        · (go_simp; try with_reducible rfl)
        try simp only [Act.put, List.setIfInBounds_toArray, List.set_cons_zero, List.set_cons_succ]
        refine take_val (v := ?_) 2 (some 25) rfl (by kernel_rfl) (by kernel_rfl) (by kernel_rfl) (fun _ _ _ h => h) rfl rfl (fun w hSw => ?_) hHeld ?_
        rotate_left
        · have cx := (Blk.cell (r2.chg hSw (by simp)) p).trans (wd4_get n p hp4)
          (go_simp; try with_reducible rfl)
        try simp only [Act.put, List.setIfInBounds_toArray, List.set_cons_zero, List.set_cons_succ]
        refine take_val (v := ?_) 3 (some 26) rfl (by kernel_rfl) (by kernel_rfl) (by kernel_rfl) (fun _ _ _ h => h) rfl rfl (fun w hSw => ?_) hHeld ?_
        rotate_left
        · (go_simp; try with_reducible rfl)
        try simp only [Act.put, List.setIfInBounds_toArray, List.set_cons_zero, List.set_cons_succ]
        refine take_val (v := ?_) 4 (some 27) rfl (by kernel_rfl) (by kernel_rfl) (by kernel_rfl) (fun _ _ _ h => h) rfl rfl (fun w hSw => ?_) hHeld ?_
        rotate_left
        · (go_simp; try with_reducible rfl)
        try simp only [Act.put, List.setIfInBounds_toArray, List.set_cons_zero, List.set_cons_succ]
        refine take_val (v := ?_) 5 (some 28) rfl (by kernel_rfl) (by kernel_rfl) (by kernel_rfl) (fun _ _ _ h => h) rfl rfl (fun w hSw => ?_) hHeld ?_
        rotate_left
        · have cx := (Blk.cell (r3.chg hSw (by simp)) p).trans (wd4_get m p hp4)
          (go_simp; try with_reducible rfl)
        try simp only [Act.put, List.setIfInBounds_toArray, List.set_cons_zero, List.set_cons_succ]
        refine wpAnyH_ready (rs := [6]) (by kernel_rfl) (by simp) ?_
        refine AllReadyH.cons (o := _) rfl (fun K hK => ?_) ?_
        ·
          go_simp
          refine (cmp_s _ _ _).mono ?_
          rintro e wz ⟨rfl, rfl⟩
          go_wp2_with fail
          refine hK.out _ _ (hHeld) (fun hHeld => ?_)
          clear hK K
          try simp only [Act.put, List.setIfInBounds_toArray, List.set_cons_zero, List.set_cons_succ]
          refine take_val (v := ?_) 7 (some 4) rfl (by kernel_rfl) (by kernel_rfl) (by kernel_rfl) (fun _ _ _ h => h) rfl rfl (fun w hSw => ?_) hHeld ?_
          rotate_left
          · (go_simp; try with_reducible rfl)
          try simp only [Act.put, List.setIfInBounds_toArray, List.set_cons_zero, List.set_cons_succ]
          refine wpAnyH_done (by kernel_rfl) ?_ _
          rw [cmp_words n m p rn rm hp4 hq.out hE.out]
          go_wp2_with fail
          go_ret
          exact ⟨rfl, r4.trans1 hHeld⟩
        exact AllReadyH.nil
    · have hk5 : k = 4 := by omega
      subst hk5
      have e : n = m := by
        have e1 := wrd_sum n rn.1 (by unfold RL at rn; omega)
        have e2 := wrd_sum m rm.1 (by unfold RL at rm; omega)
        rw [r5.out 0 (by decide) (by decide), r5.out 1 (by decide) (by decide), r5.out 2 (by decide) (by decide), r5.out 3 (by decide) (by decide)] at e1
        exact e1.symm.trans e2
      have hc0 : Hid (cmpI n m = 0) := by show cmpI n m = 0; rw [e]; simp [cmpI]
      clear e r5
      go_wp2_with fail
      go_ret
      exact ⟨by rw [hc0.out]; rfl, r4⟩
end Go.Proofs.Ytcdgkhejbdlapab
