/- ScalarAdds: the walk. -/
import Derived.Test.YtcdgkhejbdlapaaFieldOps
import Derived.Test.YtcdgkhejbdlapaaRCmp
set_option linter.unusedVariables false
set_option linter.unusedSimpArgs false
set_option linter.unnecessarySimpa false
namespace Go.Proofs.Ytcdgkhejbdlapaa
open Go.RowKit N

theorem adI (n m : Nat) : ((adP n m : Nat) : Int) = ad (n : Int) (m : Int) := by unfold adP ad; rw [Int.natCast_emod, Int.natCast_add, LN_eq]
theorem mlI (n m : Nat) : ((mlP (n % LN) (m % LN) : Nat) : Int) = ml (n : Int) (m : Int) := by unfold mlP ml; rw [← Nat.mul_mod, Int.natCast_emod, Int.natCast_mul, LN_eq]
theorem ngI (n : Nat) : ((ngP n : Nat) : Int) = ng (n : Int) := by
  unfold ngP ng
  have h := Nat.le_of_lt (Nat.mod_lt n LN_pos)
  rw [Int.natCast_emod, Int.natCast_sub h, Int.natCast_emod, LN_eq, Int.sub_emod, Int.emod_self, Int.emod_emod_of_dvd _ (Int.dvd_refl L)]
  rw [show -(n : Int) = 0 - (n : Int) by omega, Int.sub_emod 0 (n : Int)]
  rfl
theorem of_r256 {a : Int} (ra : R256 a) : ∃ n : Nat, a = (n : Int) ∧ n < 115792089237316195423570985008687907853269984665640564039457584007913129639936 := by
  obtain ⟨n, rfl⟩ := Int.eq_ofNat_of_zero_le ra.1
  exact ⟨n, rfl, by unfold R256 at ra; omega⟩
theorem Add_q (a b : Int) (ra : R256 a) (rb : R256 b) (w : World) : Calls Try.prog 22 #[fe a, fe b] w fun e w' => e = .returned (fe (ad a b)) ∧ Chg w w' [] := by
  obtain ⟨n, rfl, hn⟩ := of_r256 ra
  obtain ⟨m, rfl, hm⟩ := of_r256 rb
  rw [← adI]
  exact Add_p n m hn hm w
theorem Neg_q (a : Int) (ra : R256 a) (w : World) : Calls Try.prog 26 #[fe a] w fun e w' => e = .returned (fe (ng a)) ∧ Chg w w' [] := by
  obtain ⟨n, rfl, hn⟩ := of_r256 ra
  rw [← ngI]
  exact Neg_r n hn w
theorem Sub_q (a b : Int) (ra : R256 a) (rb : R256 b) (w : World) : Calls Try.prog 24 #[fe a, fe b] w fun e w' => e = .returned (fe (sb a b)) ∧ Chg w w' [] := by
  obtain ⟨n, rfl, hn⟩ := of_r256 ra
  obtain ⟨m, rfl, hm⟩ := of_r256 rb
  have e : sb (n : Int) (m : Int) = ((adP n (ngP m) : Nat) : Int) := by
    rw [adI, ngI]
    unfold sb ad ng
    rw [m_add_r]
    rfl
  rw [e]
  exact Sub_r n m hn hm w
theorem Mul_q (a b : Int) (ra : R256 a) (rb : R256 b) (w : World) : Calls Try.prog 28 #[fe a, fe b] w fun e w' => e = .returned (fe (ml a b)) ∧ Chg w w' [] := by
  obtain ⟨n, rfl, hn⟩ := of_r256 ra
  obtain ⟨m, rfl, hm⟩ := of_r256 rb
  rw [← mlI]
  exact Mul_r n m hn hm w
theorem MulAdd_q (a b c : Int) (ra : R256 a) (rb : R256 b) (rc : R256 c) (w : World) : Calls Try.prog 30 #[fe a, fe b, fe c] w fun e w' => e = .returned (fe (ma a b c)) ∧ Chg w w' [] := by
  obtain ⟨n, rfl, hn⟩ := of_r256 ra
  obtain ⟨m, rfl, hm⟩ := of_r256 rb
  obtain ⟨c, rfl, hc⟩ := of_r256 rc
  have e : ma (n : Int) (m : Int) (c : Int) = ((adP (mlP (n % LN) (m % LN)) c : Nat) : Int) := by
    rw [adI, mlI]
    unfold ma ad ml
    rw [m_add_l]
  rw [e]
  exact MulAdd_r n m c hn hm hc w
theorem IsZero_q (a : Int) (ra : R256 a) (t : Bool) (h : eqn (cn a) 0 = t) (w : World) : Calls Try.prog 32 #[fe a] w fun e w' => e = .returned (.bool t) ∧ Chg w w' [] := by
  obtain ⟨n, rfl, hn⟩ := of_r256 ra
  have e : eqn (cn (n : Int)) 0 = eqD (n % LN) 0 := by
    rw [eqn_eq (n := cn (n : Int)) (m := 0) (rl_mod _) ⟨by decide, by decide⟩, eqD_eq (modL_lt n) (by decide)]
    have e1 : cn (n : Int) = ((n % LN : Nat) : Int) := by unfold cn; rw [Int.natCast_emod, LN_eq]
    rw [e1]
    by_cases hz : n % LN = 0
    · rw [hz]; rfl
    · rw [decide_eq_false hz, decide_eq_false (by omega)]
  rw [← h, e]
  exact IsZero_r n hn w
theorem Compare_q (a b : Int) (ra : R256 a) (rb : R256 b) (t : Int) (h : cmpI (cn a) (cn b) = t) (w : World) : Calls Try.prog 34 #[fe a, fe b] w fun e w' => e = .returned (.int .i64 t) ∧ Chg w w' [] := by
  obtain ⟨n, rfl, hn⟩ := of_r256 ra
  obtain ⟨m, rfl, hm⟩ := of_r256 rb
  have e1 : cn (n : Int) = ((n % LN : Nat) : Int) := by unfold cn; rw [Int.natCast_emod, LN_eq]
  have e2 : cn (m : Int) = ((m % LN : Nat) : Int) := by unfold cn; rw [Int.natCast_emod, LN_eq]
  rw [← h, e1, e2]
  exact Compare_r n m hn hm w

set_option maxHeartbeats 16000000 in
set_option maxRecDepth 100000 in
theorem adds_walk0 (a b c : Int) (ra : R256 a) (rb : R256 b) (rc : R256 c) (z : Bool) (HZ : eqn (cn a) 0 = z) (cm : Int) (HK : cmpI (cn a) (cn b) = cm) (w : World) :
    Calls Try.prog 4 #[fe a, fe b, fe c] w fun e w' => e = .returned (.bool true) ∧ Chg w w' [] := by
  have hge := feGuard
  have F0 : Blk (((w.alloc (.cells (feC a) 24)).alloc (.cells (feC b) 24)).alloc (.cells (feC c) 24)) w.heap.size (feC a) 24 := ((Blk.new w (feC a) 24).alloc _).alloc _
  have F1 : Blk (((w.alloc (.cells (feC a) 24)).alloc (.cells (feC b) 24)).alloc (.cells (feC c) 24)) (w.heap.size + 1) (feC b) 24 := by have h := (Blk.new (w.alloc (.cells (feC a) 24)) (feC b) 24).alloc (.cells (feC c) 24); simpa using h
  have F2 : Blk (((w.alloc (.cells (feC a) 24)).alloc (.cells (feC b) 24)).alloc (.cells (feC c) 24)) (w.heap.size + 1 + 1) (feC c) 24 := by have h := Blk.new ((w.alloc (.cells (feC a) 24)).alloc (.cells (feC b) 24)) (feC c) 24; simpa using h
  have CC : Chg w (((w.alloc (.cells (feC a) 24)).alloc (.cells (feC b) 24)).alloc (.cells (feC c) 24)) [] := (((Chg.refl w []).alloc (.cells (feC a) 24)).alloc (.cells (feC b) 24)).alloc (.cells (feC c) 24)
  go_enter Try.func4, Try.ntmps4
  go_wp2_with fail
  generalize hv0 : (((w.alloc (.cells (feC a) 24)).alloc (.cells (feC b) 24)).alloc (.cells (feC c) 24)) = v0 at F0 F1 F2 CC
  try (change Code.wp _ _ _ _ (((w.alloc (.cells (feC a) 24)).alloc (.cells (feC b) 24)).alloc (.cells (feC c) 24)); rw [hv0])
  clear hv0
  refine wp_region_held_drew (S := fun w' => Chg v0 w' []) (by kernel_rfl) ((Chg.refl v0 []).drew) (fun hHeld => ?_)
  refine take_load 0 (some 7) (feC a) rfl (by kernel_rfl) (by kernel_rfl) (by kernel_rfl) (fun _ _ _ h => h) rfl rfl 24 _ rfl w.heap.size rfl 24 _ (fun w h => F0.chg h (by simp)) Try.underlying24 rfl (by first | exact feInfo | kernel_rfl) hHeld ?_
  try simp only [Act.put, List.setIfInBounds_toArray, List.set_cons_zero, List.set_cons_succ]
  refine take_load 1 (some 8) (feC b) rfl (by kernel_rfl) (by kernel_rfl) (by kernel_rfl) (fun _ _ _ h => h) rfl rfl 24 _ rfl (w.heap.size + 1) rfl 24 _ (fun w h => F1.chg h (by simp)) Try.underlying24 rfl (by first | exact feInfo | kernel_rfl) hHeld ?_
  try simp only [Act.put, List.setIfInBounds_toArray, List.set_cons_zero, List.set_cons_succ]
  refine take_load 3 (some 10) (feC a) rfl (by kernel_rfl) (by kernel_rfl) (by kernel_rfl) (fun _ _ _ h => h) rfl rfl 24 _ rfl w.heap.size rfl 24 _ (fun w h => F0.chg h (by simp)) Try.underlying24 rfl (by first | exact feInfo | kernel_rfl) hHeld ?_
  try simp only [Act.put, List.setIfInBounds_toArray, List.set_cons_zero, List.set_cons_succ]
  refine take_load 4 (some 11) (feC b) rfl (by kernel_rfl) (by kernel_rfl) (by kernel_rfl) (fun _ _ _ h => h) rfl rfl 24 _ rfl (w.heap.size + 1) rfl 24 _ (fun w h => F1.chg h (by simp)) Try.underlying24 rfl (by first | exact feInfo | kernel_rfl) hHeld ?_
  try simp only [Act.put, List.setIfInBounds_toArray, List.set_cons_zero, List.set_cons_succ]
  refine wpAnyH_ready (rs := [2]) (by kernel_rfl) (by simp) ?_
  refine AllReadyH.cons (o := _) rfl (fun K hK => ?_) ?_
  ·
    go_simp
    refine (Add_o a b ra rb _).mono ?_
    rintro e x2 ⟨rfl, k⟩
    go_wp2_with fail
    refine hK.out _ _ (hHeld.trans1 k) (fun hHeld => ?_)
    clear hK K
    try simp only [Act.put, List.setIfInBounds_toArray, List.set_cons_zero, List.set_cons_succ]
    refine wpAnyH_ready (rs := [5]) (by kernel_rfl) (by simp) ?_
    refine AllReadyH.cons (o := _) rfl (fun K hK => ?_) ?_
    ·
      go_simp
      refine (Add_q a b ra rb _).mono ?_
      rintro e x5 ⟨rfl, k⟩
      go_wp2_with fail
      refine hK.out _ _ (hHeld.trans1 k) (fun hHeld => ?_)
      clear hK K
      try simp only [Act.put, List.setIfInBounds_toArray, List.set_cons_zero, List.set_cons_succ]
      refine take_val (v := (.bool false)) 6 (some 13) rfl (by kernel_rfl) (by kernel_rfl) (by kernel_rfl) (fun _ _ _ h => h) rfl rfl (fun w hSw => ?_) hHeld ?_
      · (go_simp; try with_reducible rfl)
      try simp only [Act.put, List.setIfInBounds_toArray, List.set_cons_zero, List.set_cons_succ]
      refine take_val (v := ?_) 7 (some 14) rfl (by kernel_rfl) (by kernel_rfl) (by kernel_rfl) (fun _ _ _ h => h) rfl rfl (fun w hSw => ?_) hHeld ?_
      rotate_left
      · (go_simp; try with_reducible rfl)
      try simp only [Act.put, List.setIfInBounds_toArray, List.set_cons_zero, List.set_cons_succ]
      refine take_load 8 (some 15) (feC a) rfl (by kernel_rfl) (by kernel_rfl) (by kernel_rfl) (fun _ _ _ h => h) rfl rfl 24 _ rfl w.heap.size rfl 24 _ (fun w h => F0.chg h (by simp)) Try.underlying24 rfl (by first | exact feInfo | kernel_rfl) hHeld ?_
      try simp only [Act.put, List.setIfInBounds_toArray, List.set_cons_zero, List.set_cons_succ]
      refine take_load 9 (some 16) (feC b) rfl (by kernel_rfl) (by kernel_rfl) (by kernel_rfl) (fun _ _ _ h => h) rfl rfl 24 _ rfl (w.heap.size + 1) rfl 24 _ (fun w h => F1.chg h (by simp)) Try.underlying24 rfl (by first | exact feInfo | kernel_rfl) hHeld ?_
      try simp only [Act.put, List.setIfInBounds_toArray, List.set_cons_zero, List.set_cons_succ]
      refine take_load 11 (some 18) (feC a) rfl (by kernel_rfl) (by kernel_rfl) (by kernel_rfl) (fun _ _ _ h => h) rfl rfl 24 _ rfl w.heap.size rfl 24 _ (fun w h => F0.chg h (by simp)) Try.underlying24 rfl (by first | exact feInfo | kernel_rfl) hHeld ?_
      try simp only [Act.put, List.setIfInBounds_toArray, List.set_cons_zero, List.set_cons_succ]
      refine take_load 12 (some 19) (feC b) rfl (by kernel_rfl) (by kernel_rfl) (by kernel_rfl) (fun _ _ _ h => h) rfl rfl 24 _ rfl (w.heap.size + 1) rfl 24 _ (fun w h => F1.chg h (by simp)) Try.underlying24 rfl (by first | exact feInfo | kernel_rfl) hHeld ?_
      try simp only [Act.put, List.setIfInBounds_toArray, List.set_cons_zero, List.set_cons_succ]
      refine wpAnyH_ready (rs := [10]) (by kernel_rfl) (by simp) ?_
      refine AllReadyH.cons (o := _) rfl (fun K hK => ?_) ?_
      ·
        go_simp
        refine (Sub_o a b ra rb _).mono ?_
        rintro e x10 ⟨rfl, k⟩
        go_wp2_with fail
        refine hK.out _ _ (hHeld.trans1 k) (fun hHeld => ?_)
        clear hK K
        try simp only [Act.put, List.setIfInBounds_toArray, List.set_cons_zero, List.set_cons_succ]
        refine wpAnyH_ready (rs := [13]) (by kernel_rfl) (by simp) ?_
        refine AllReadyH.cons (o := _) rfl (fun K hK => ?_) ?_
        ·
          go_simp
          refine (Sub_q a b ra rb _).mono ?_
          rintro e x13 ⟨rfl, k⟩
          go_wp2_with fail
          refine hK.out _ _ (hHeld.trans1 k) (fun hHeld => ?_)
          clear hK K
          try simp only [Act.put, List.setIfInBounds_toArray, List.set_cons_zero, List.set_cons_succ]
          refine take_val (v := (.bool false)) 14 (some 21) rfl (by kernel_rfl) (by kernel_rfl) (by kernel_rfl) (fun _ _ _ h => h) rfl rfl (fun w hSw => ?_) hHeld ?_
          · (go_simp; try with_reducible rfl)
          try simp only [Act.put, List.setIfInBounds_toArray, List.set_cons_zero, List.set_cons_succ]
          refine take_val (v := ?_) 15 (some 22) rfl (by kernel_rfl) (by kernel_rfl) (by kernel_rfl) (fun _ _ _ h => h) rfl rfl (fun w hSw => ?_) hHeld ?_
          rotate_left
          · (go_simp; try with_reducible rfl)
          try simp only [Act.put, List.setIfInBounds_toArray, List.set_cons_zero, List.set_cons_succ]
          refine take_val (v := ?_) 16 (some 23) rfl (by kernel_rfl) (by kernel_rfl) (by kernel_rfl) (fun _ _ _ h => h) rfl rfl (fun w hSw => ?_) hHeld ?_
          rotate_left
          · (go_simp; try with_reducible rfl)
          try simp only [Act.put, List.setIfInBounds_toArray, List.set_cons_zero, List.set_cons_succ]
          refine take_load 17 (some 24) (feC a) rfl (by kernel_rfl) (by kernel_rfl) (by kernel_rfl) (fun _ _ _ h => h) rfl rfl 24 _ rfl w.heap.size rfl 24 _ (fun w h => F0.chg h (by simp)) Try.underlying24 rfl (by first | exact feInfo | kernel_rfl) hHeld ?_
          try simp only [Act.put, List.setIfInBounds_toArray, List.set_cons_zero, List.set_cons_succ]
          refine take_load 19 (some 26) (feC a) rfl (by kernel_rfl) (by kernel_rfl) (by kernel_rfl) (fun _ _ _ h => h) rfl rfl 24 _ rfl w.heap.size rfl 24 _ (fun w h => F0.chg h (by simp)) Try.underlying24 rfl (by first | exact feInfo | kernel_rfl) hHeld ?_
          try simp only [Act.put, List.setIfInBounds_toArray, List.set_cons_zero, List.set_cons_succ]
          refine wpAnyH_ready (rs := [18]) (by kernel_rfl) (by simp) ?_
          refine AllReadyH.cons (o := _) rfl (fun K hK => ?_) ?_
          ·
            go_simp
            refine (Neg_o a ra _).mono ?_
            rintro e x18 ⟨rfl, k⟩
            go_wp2_with fail
            refine hK.out _ _ (hHeld.trans1 k) (fun hHeld => ?_)
            clear hK K
            try simp only [Act.put, List.setIfInBounds_toArray, List.set_cons_zero, List.set_cons_succ]
            refine wpAnyH_ready (rs := [20]) (by kernel_rfl) (by simp) ?_
            refine AllReadyH.cons (o := _) rfl (fun K hK => ?_) ?_
            ·
              go_simp
              refine (Neg_q a ra _).mono ?_
              rintro e x20 ⟨rfl, k⟩
              go_wp2_with fail
              refine hK.out _ _ (hHeld.trans1 k) (fun hHeld => ?_)
              clear hK K
              try simp only [Act.put, List.setIfInBounds_toArray, List.set_cons_zero, List.set_cons_succ]
              refine take_val (v := (.bool false)) 21 (some 28) rfl (by kernel_rfl) (by kernel_rfl) (by kernel_rfl) (fun _ _ _ h => h) rfl rfl (fun w hSw => ?_) hHeld ?_
              · (go_simp; try with_reducible rfl)
              try simp only [Act.put, List.setIfInBounds_toArray, List.set_cons_zero, List.set_cons_succ]
              refine take_val (v := ?_) 22 (some 29) rfl (by kernel_rfl) (by kernel_rfl) (by kernel_rfl) (fun _ _ _ h => h) rfl rfl (fun w hSw => ?_) hHeld ?_
              rotate_left
              · (go_simp; try with_reducible rfl)
              try simp only [Act.put, List.setIfInBounds_toArray, List.set_cons_zero, List.set_cons_succ]
              refine take_val (v := ?_) 23 (some 30) rfl (by kernel_rfl) (by kernel_rfl) (by kernel_rfl) (fun _ _ _ h => h) rfl rfl (fun w hSw => ?_) hHeld ?_
              rotate_left
              · (go_simp; try with_reducible rfl)
              try simp only [Act.put, List.setIfInBounds_toArray, List.set_cons_zero, List.set_cons_succ]
              refine take_load 24 (some 31) (feC a) rfl (by kernel_rfl) (by kernel_rfl) (by kernel_rfl) (fun _ _ _ h => h) rfl rfl 24 _ rfl w.heap.size rfl 24 _ (fun w h => F0.chg h (by simp)) Try.underlying24 rfl (by first | exact feInfo | kernel_rfl) hHeld ?_
              try simp only [Act.put, List.setIfInBounds_toArray, List.set_cons_zero, List.set_cons_succ]
              refine take_load 25 (some 32) (feC b) rfl (by kernel_rfl) (by kernel_rfl) (by kernel_rfl) (fun _ _ _ h => h) rfl rfl 24 _ rfl (w.heap.size + 1) rfl 24 _ (fun w h => F1.chg h (by simp)) Try.underlying24 rfl (by first | exact feInfo | kernel_rfl) hHeld ?_
              try simp only [Act.put, List.setIfInBounds_toArray, List.set_cons_zero, List.set_cons_succ]
              refine take_load 27 (some 34) (feC a) rfl (by kernel_rfl) (by kernel_rfl) (by kernel_rfl) (fun _ _ _ h => h) rfl rfl 24 _ rfl w.heap.size rfl 24 _ (fun w h => F0.chg h (by simp)) Try.underlying24 rfl (by first | exact feInfo | kernel_rfl) hHeld ?_
              try simp only [Act.put, List.setIfInBounds_toArray, List.set_cons_zero, List.set_cons_succ]
              refine take_load 28 (some 35) (feC b) rfl (by kernel_rfl) (by kernel_rfl) (by kernel_rfl) (fun _ _ _ h => h) rfl rfl 24 _ rfl (w.heap.size + 1) rfl 24 _ (fun w h => F1.chg h (by simp)) Try.underlying24 rfl (by first | exact feInfo | kernel_rfl) hHeld ?_
              try simp only [Act.put, List.setIfInBounds_toArray, List.set_cons_zero, List.set_cons_succ]
              refine wpAnyH_ready (rs := [26]) (by kernel_rfl) (by simp) ?_
              refine AllReadyH.cons (o := _) rfl (fun K hK => ?_) ?_
              ·
                go_simp
                refine (Mul_o a b ra rb _).mono ?_
                rintro e x26 ⟨rfl, k⟩
                go_wp2_with fail
                refine hK.out _ _ (hHeld.trans1 k) (fun hHeld => ?_)
                clear hK K
                try simp only [Act.put, List.setIfInBounds_toArray, List.set_cons_zero, List.set_cons_succ]
                refine wpAnyH_ready (rs := [29]) (by kernel_rfl) (by simp) ?_
                refine AllReadyH.cons (o := _) rfl (fun K hK => ?_) ?_
                ·
                  go_simp
                  refine (Mul_q a b ra rb _).mono ?_
                  rintro e x29 ⟨rfl, k⟩
                  go_wp2_with fail
                  refine hK.out _ _ (hHeld.trans1 k) (fun hHeld => ?_)
                  clear hK K
                  try simp only [Act.put, List.setIfInBounds_toArray, List.set_cons_zero, List.set_cons_succ]
                  refine take_val (v := (.bool false)) 30 (some 37) rfl (by kernel_rfl) (by kernel_rfl) (by kernel_rfl) (fun _ _ _ h => h) rfl rfl (fun w hSw => ?_) hHeld ?_
                  · (go_simp; try with_reducible rfl)
                  try simp only [Act.put, List.setIfInBounds_toArray, List.set_cons_zero, List.set_cons_succ]
                  refine take_val (v := ?_) 31 (some 38) rfl (by kernel_rfl) (by kernel_rfl) (by kernel_rfl) (fun _ _ _ h => h) rfl rfl (fun w hSw => ?_) hHeld ?_
                  rotate_left
                  · (go_simp; try with_reducible rfl)
                  try simp only [Act.put, List.setIfInBounds_toArray, List.set_cons_zero, List.set_cons_succ]
                  refine take_val (v := ?_) 32 (some 39) rfl (by kernel_rfl) (by kernel_rfl) (by kernel_rfl) (fun _ _ _ h => h) rfl rfl (fun w hSw => ?_) hHeld ?_
                  rotate_left
                  · (go_simp; try with_reducible rfl)
                  try simp only [Act.put, List.setIfInBounds_toArray, List.set_cons_zero, List.set_cons_succ]
                  refine take_load 33 (some 40) (feC a) rfl (by kernel_rfl) (by kernel_rfl) (by kernel_rfl) (fun _ _ _ h => h) rfl rfl 24 _ rfl w.heap.size rfl 24 _ (fun w h => F0.chg h (by simp)) Try.underlying24 rfl (by first | exact feInfo | kernel_rfl) hHeld ?_
                  try simp only [Act.put, List.setIfInBounds_toArray, List.set_cons_zero, List.set_cons_succ]
                  refine take_load 34 (some 41) (feC b) rfl (by kernel_rfl) (by kernel_rfl) (by kernel_rfl) (fun _ _ _ h => h) rfl rfl 24 _ rfl (w.heap.size + 1) rfl 24 _ (fun w h => F1.chg h (by simp)) Try.underlying24 rfl (by first | exact feInfo | kernel_rfl) hHeld ?_
                  try simp only [Act.put, List.setIfInBounds_toArray, List.set_cons_zero, List.set_cons_succ]
                  refine take_load 35 (some 42) (feC c) rfl (by kernel_rfl) (by kernel_rfl) (by kernel_rfl) (fun _ _ _ h => h) rfl rfl 24 _ rfl (w.heap.size + 1 + 1) rfl 24 _ (fun w h => F2.chg h (by simp)) Try.underlying24 rfl (by first | exact feInfo | kernel_rfl) hHeld ?_
                  try simp only [Act.put, List.setIfInBounds_toArray, List.set_cons_zero, List.set_cons_succ]
                  refine take_load 37 (some 44) (feC a) rfl (by kernel_rfl) (by kernel_rfl) (by kernel_rfl) (fun _ _ _ h => h) rfl rfl 24 _ rfl w.heap.size rfl 24 _ (fun w h => F0.chg h (by simp)) Try.underlying24 rfl (by first | exact feInfo | kernel_rfl) hHeld ?_
                  try simp only [Act.put, List.setIfInBounds_toArray, List.set_cons_zero, List.set_cons_succ]
                  refine take_load 38 (some 45) (feC b) rfl (by kernel_rfl) (by kernel_rfl) (by kernel_rfl) (fun _ _ _ h => h) rfl rfl 24 _ rfl (w.heap.size + 1) rfl 24 _ (fun w h => F1.chg h (by simp)) Try.underlying24 rfl (by first | exact feInfo | kernel_rfl) hHeld ?_
                  try simp only [Act.put, List.setIfInBounds_toArray, List.set_cons_zero, List.set_cons_succ]
                  refine take_load 39 (some 46) (feC c) rfl (by kernel_rfl) (by kernel_rfl) (by kernel_rfl) (fun _ _ _ h => h) rfl rfl 24 _ rfl (w.heap.size + 1 + 1) rfl 24 _ (fun w h => F2.chg h (by simp)) Try.underlying24 rfl (by first | exact feInfo | kernel_rfl) hHeld ?_
                  try simp only [Act.put, List.setIfInBounds_toArray, List.set_cons_zero, List.set_cons_succ]
                  refine wpAnyH_ready (rs := [36]) (by kernel_rfl) (by simp) ?_
                  refine AllReadyH.cons (o := _) rfl (fun K hK => ?_) ?_
                  ·
                    go_simp
                    refine (MulAdd_o a b c ra rb rc _).mono ?_
                    rintro e x36 ⟨rfl, k⟩
                    go_wp2_with fail
                    refine hK.out _ _ (hHeld.trans1 k) (fun hHeld => ?_)
                    clear hK K
                    try simp only [Act.put, List.setIfInBounds_toArray, List.set_cons_zero, List.set_cons_succ]
                    refine wpAnyH_ready (rs := [40]) (by kernel_rfl) (by simp) ?_
                    refine AllReadyH.cons (o := _) rfl (fun K hK => ?_) ?_
                    ·
                      go_simp
                      refine (MulAdd_q a b c ra rb rc _).mono ?_
                      rintro e x40 ⟨rfl, k⟩
                      go_wp2_with fail
                      refine hK.out _ _ (hHeld.trans1 k) (fun hHeld => ?_)
                      clear hK K
                      try simp only [Act.put, List.setIfInBounds_toArray, List.set_cons_zero, List.set_cons_succ]
                      refine take_val (v := (.bool false)) 41 (some 48) rfl (by kernel_rfl) (by kernel_rfl) (by kernel_rfl) (fun _ _ _ h => h) rfl rfl (fun w hSw => ?_) hHeld ?_
                      · (go_simp; try with_reducible rfl)
                      try simp only [Act.put, List.setIfInBounds_toArray, List.set_cons_zero, List.set_cons_succ]
                      refine take_val (v := ?_) 42 (some 49) rfl (by kernel_rfl) (by kernel_rfl) (by kernel_rfl) (fun _ _ _ h => h) rfl rfl (fun w hSw => ?_) hHeld ?_
                      rotate_left
                      · (go_simp; try with_reducible rfl)
                      try simp only [Act.put, List.setIfInBounds_toArray, List.set_cons_zero, List.set_cons_succ]
                      refine wpAnyH_done (by kernel_rfl) ?_ _
                      obtain ⟨v1, hw⟩ : ∃ x, x = x40 := ⟨_, rfl⟩
                      rw [← hw] at hHeld ⊢
                      replace F0 := F0.chg hHeld (by simp)
                      replace F1 := F1.chg hHeld (by simp)
                      replace F2 := F2.chg hHeld (by simp)
                      replace CC := CC.trans1 hHeld
                      clear hw hHeld k
                      go_wp2_with fail
                      refine wp_region_held_drew (S := fun w' => Chg v1 w' []) (by kernel_rfl) ((Chg.refl v1 []).drew) (fun hHeld => ?_)
                      refine take_load 0 (some 50) (feC a) rfl (by kernel_rfl) (by kernel_rfl) (by kernel_rfl) (fun _ _ _ h => h) rfl rfl 24 _ rfl w.heap.size rfl 24 _ (fun w h => F0.chg h (by simp)) Try.underlying24 rfl (by first | exact feInfo | kernel_rfl) hHeld ?_
                      try simp only [Act.put, List.setIfInBounds_toArray, List.set_cons_zero, List.set_cons_succ]
                      refine take_load 2 (some 52) (feC a) rfl (by kernel_rfl) (by kernel_rfl) (by kernel_rfl) (fun _ _ _ h => h) rfl rfl 24 _ rfl w.heap.size rfl 24 _ (fun w h => F0.chg h (by simp)) Try.underlying24 rfl (by first | exact feInfo | kernel_rfl) hHeld ?_
                      try simp only [Act.put, List.setIfInBounds_toArray, List.set_cons_zero, List.set_cons_succ]
                      refine wpAnyH_ready (rs := [1]) (by kernel_rfl) (by simp) ?_
                      refine AllReadyH.cons (o := _) rfl (fun K hK => ?_) ?_
                      ·
                        go_simp
                        refine (IsZero_is a ra z HZ _).mono ?_
                        rintro e x1 ⟨rfl, k⟩
                        go_wp2_with fail
                        refine hK.out _ _ (hHeld.trans1 k) (fun hHeld => ?_)
                        clear hK K
                        try simp only [Act.put, List.setIfInBounds_toArray, List.set_cons_zero, List.set_cons_succ]
                        refine wpAnyH_ready (rs := [3]) (by kernel_rfl) (by simp) ?_
                        refine AllReadyH.cons (o := _) rfl (fun K hK => ?_) ?_
                        ·
                          go_simp
                          refine (IsZero_q a ra z HZ _).mono ?_
                          rintro e x3 ⟨rfl, k⟩
                          go_wp2_with fail
                          refine hK.out _ _ (hHeld.trans1 k) (fun hHeld => ?_)
                          clear hK K
                          try simp only [Act.put, List.setIfInBounds_toArray, List.set_cons_zero, List.set_cons_succ]
                          refine take_val (v := (.bool true)) 4 (some 54) rfl (by kernel_rfl) (by kernel_rfl) (by kernel_rfl) (fun _ _ _ h => h) rfl rfl (fun w hSw => ?_) hHeld ?_
                          · (go_simp; try with_reducible rfl)
                          try simp only [Act.put, List.setIfInBounds_toArray, List.set_cons_zero, List.set_cons_succ]
                          refine take_val (v := ?_) 5 (some 55) rfl (by kernel_rfl) (by kernel_rfl) (by kernel_rfl) (fun _ _ _ h => h) rfl rfl (fun w hSw => ?_) hHeld ?_
                          rotate_left
                          · (go_simp; try with_reducible rfl)
                          try simp only [Act.put, List.setIfInBounds_toArray, List.set_cons_zero, List.set_cons_succ]
                          refine take_load 6 (some 56) (feC a) rfl (by kernel_rfl) (by kernel_rfl) (by kernel_rfl) (fun _ _ _ h => h) rfl rfl 24 _ rfl w.heap.size rfl 24 _ (fun w h => F0.chg h (by simp)) Try.underlying24 rfl (by first | exact feInfo | kernel_rfl) hHeld ?_
                          try simp only [Act.put, List.setIfInBounds_toArray, List.set_cons_zero, List.set_cons_succ]
                          refine take_load 7 (some 57) (feC b) rfl (by kernel_rfl) (by kernel_rfl) (by kernel_rfl) (fun _ _ _ h => h) rfl rfl 24 _ rfl (w.heap.size + 1) rfl 24 _ (fun w h => F1.chg h (by simp)) Try.underlying24 rfl (by first | exact feInfo | kernel_rfl) hHeld ?_
                          try simp only [Act.put, List.setIfInBounds_toArray, List.set_cons_zero, List.set_cons_succ]
                          refine take_load 9 (some 59) (feC a) rfl (by kernel_rfl) (by kernel_rfl) (by kernel_rfl) (fun _ _ _ h => h) rfl rfl 24 _ rfl w.heap.size rfl 24 _ (fun w h => F0.chg h (by simp)) Try.underlying24 rfl (by first | exact feInfo | kernel_rfl) hHeld ?_
                          try simp only [Act.put, List.setIfInBounds_toArray, List.set_cons_zero, List.set_cons_succ]
                          refine take_load 10 (some 60) (feC b) rfl (by kernel_rfl) (by kernel_rfl) (by kernel_rfl) (fun _ _ _ h => h) rfl rfl 24 _ rfl (w.heap.size + 1) rfl 24 _ (fun w h => F1.chg h (by simp)) Try.underlying24 rfl (by first | exact feInfo | kernel_rfl) hHeld ?_
                          try simp only [Act.put, List.setIfInBounds_toArray, List.set_cons_zero, List.set_cons_succ]
                          refine wpAnyH_ready (rs := [8]) (by kernel_rfl) (by simp) ?_
                          refine AllReadyH.cons (o := _) rfl (fun K hK => ?_) ?_
                          ·
                            go_simp
                            refine (Compare_is a b ra rb cm HK _).mono ?_
                            rintro e x8 ⟨rfl, k⟩
                            go_wp2_with fail
                            refine hK.out _ _ (hHeld.trans1 k) (fun hHeld => ?_)
                            clear hK K
                            try simp only [Act.put, List.setIfInBounds_toArray, List.set_cons_zero, List.set_cons_succ]
                            refine wpAnyH_ready (rs := [11]) (by kernel_rfl) (by simp) ?_
                            refine AllReadyH.cons (o := _) rfl (fun K hK => ?_) ?_
                            ·
                              go_simp
                              refine (Compare_q a b ra rb cm HK _).mono ?_
                              rintro e x11 ⟨rfl, k⟩
                              go_wp2_with fail
                              refine hK.out _ _ (hHeld.trans1 k) (fun hHeld => ?_)
                              clear hK K
                              try simp only [Act.put, List.setIfInBounds_toArray, List.set_cons_zero, List.set_cons_succ]
                              refine take_val (v := (.bool true)) 12 (some 62) rfl (by kernel_rfl) (by kernel_rfl) (by kernel_rfl) (fun _ _ _ h => h) rfl rfl (fun w hSw => ?_) hHeld ?_
                              · (go_simp; try with_reducible rfl)
                              try simp only [Act.put, List.setIfInBounds_toArray, List.set_cons_zero, List.set_cons_succ]
                              refine take_val (v := ?_) 13 (some 63) rfl (by kernel_rfl) (by kernel_rfl) (by kernel_rfl) (fun _ _ _ h => h) rfl rfl (fun w hSw => ?_) hHeld ?_
                              rotate_left
                              · (go_simp; try with_reducible rfl)
                              try simp only [Act.put, List.setIfInBounds_toArray, List.set_cons_zero, List.set_cons_succ]
                              refine take_val (v := ?_) 14 (some 64) rfl (by kernel_rfl) (by kernel_rfl) (by kernel_rfl) (fun _ _ _ h => h) rfl rfl (fun w hSw => ?_) hHeld ?_
                              rotate_left
                              · (go_simp; try with_reducible rfl)
                              try simp only [Act.put, List.setIfInBounds_toArray, List.set_cons_zero, List.set_cons_succ]
                              refine wpAnyH_ready (rs := [15]) (by kernel_rfl) (by simp) ?_
                              refine AllReadyH.cons (o := _) rfl (fun K hK => ?_) ?_
                              ·
                                go_simp
                                refine (works_true _).mono ?_
                                rintro e x15 ⟨rfl, k⟩
                                go_wp2_with fail
                                refine hK.out _ _ (hHeld.trans1 k) (fun hHeld => ?_)
                                clear hK K
                                try simp only [Act.put, List.setIfInBounds_toArray, List.set_cons_zero, List.set_cons_succ]
                                refine take_val (v := ?_) 16 (some 66) rfl (by kernel_rfl) (by kernel_rfl) (by kernel_rfl) (fun _ _ _ h => h) rfl rfl (fun w hSw => ?_) hHeld ?_
                                rotate_left
                                · (go_simp; try with_reducible rfl)
                                try simp only [Act.put, List.setIfInBounds_toArray, List.set_cons_zero, List.set_cons_succ]
                                refine take_val (v := ?_) 17 (some 6) rfl (by kernel_rfl) (by kernel_rfl) (by kernel_rfl) (fun _ _ _ h => h) rfl rfl (fun w hSw => ?_) hHeld ?_
                                rotate_left
                                · (go_simp; try with_reducible rfl)
                                try simp only [Act.put, List.setIfInBounds_toArray, List.set_cons_zero, List.set_cons_succ]
                                refine wpAnyH_done (by kernel_rfl) ?_ _
                                replace CC := CC.trans1 hHeld
                                go_wp2_with fail
                                go_ret
                                exact ⟨rfl, CC⟩
                              exact AllReadyH.nil
                            exact AllReadyH.nil
                          exact AllReadyH.nil
                        exact AllReadyH.nil
                      exact AllReadyH.nil
                    exact AllReadyH.nil
                  exact AllReadyH.nil
                exact AllReadyH.nil
              exact AllReadyH.nil
            exact AllReadyH.nil
          exact AllReadyH.nil
        exact AllReadyH.nil
      exact AllReadyH.nil
    exact AllReadyH.nil
  exact AllReadyH.nil
end Go.Proofs.Ytcdgkhejbdlapaa
