/- rimeref01.Reduce of any bytes (up to 2^45), rimeref01.Canonical. -/
import Derived.Test.YtialljmkkichiaaRModAll
import Derived.Test.YtialljmkkichiaaRFun
set_option linter.unusedVariables false
set_option linter.unusedSimpArgs false
set_option linter.unnecessarySimpa false
namespace Go.Proofs.Ytialljmkkichiaa
open Go.RowKit N

set_option maxHeartbeats 4000000 in
set_option maxRecDepth 100000 in
theorem Reduce_rall (g o n cap : Nat) (b : Nat → Nat) (hn : n ≤ 35184372088832) (w : World) (hB : Bs w g o n b) :
    Calls Try.prog 14 #[.slice (some ⟨g, o, none⟩) n cap] w fun e w' => e = .returned (fe ((nb b 0 n % PM : Nat) : Int)) ∧ Chg w w' [] := by
  have hbd := hB.bd
  have B0 := Blk.new w z32 24
  have C0 := (Chg.refl w []).alloc (.cells z32 24)
  replace hB := hB.alloc (.cells z32 24)
  obtain ⟨m, hm⟩ : ∃ m, m = nb b 0 n % PM := ⟨_, rfl⟩
  rw [← hm]
  go_enter Try.func14, Try.ntmps14
  go_wp2_with fail
  refine (digits_r g o n cap b (by omega) _ hB).mono ?_
  rintro e v1 ⟨h, rfl, hh, bh, k⟩
  replace B0 := B0.chg k (by simp)
  replace C0 := C0.trans1 k
  clear k hB
  go_wp2_with fail
  refine (mod_all ((n + 1) / 2) h 0 ((n + 1) / 2) (dfk b n) (Nat.le_refl _) (by omega) (fun i _ => Nat.lt_trans (dfk_lt b n n i (Nat.le_refl _) hbd) (by decide)) _ (Us.of bh)).mono ?_
  rintro e v2 ⟨rfl, k⟩
  rw [nv_digits b n, ← hm]
  replace B0 := B0.chg k (by simp)
  replace C0 := C0.trans1 k
  clear k bh
  clear hm
  go_wp2_with fail
  refine (Back_r m _).mono ?_
  rintro e v3 ⟨rfl, k⟩
  replace B0 := B0.chg k (by simp)
  replace C0 := C0.trans1 k
  clear k
  go_wp2_with (refine wpList_store_row rfl 24 _ _ rfl w.heap.size _ rfl rfl 24 _ B0 feInfo rfl (feC_one _) ?_)
  exact bodyPost_ret (results_cell_row Try.results14 _ _ w.heap.size 24 (feC ((m : Nat) : Int)) (0, 0) _ rfl (Blk.setRow B0 _) Try.underlying24 rfl feInfo) rfl ⟨rfl, C0.setRowNew (Nat.le_refl _) _⟩

set_option maxHeartbeats 4000000 in
set_option maxRecDepth 100000 in
theorem Canonical_r (a : Int) (ra : R256 a) (w : World) : Calls Try.prog 16 #[fe a] w fun e w' => e = .returned (.bool (eqf (a % P) a)) ∧ Chg w w' [] := by
  have hge := feGuard
  have F0 := Blk.new w (feC a) 24
  have C0 := (Chg.refl w []).alloc (.cells (feC a) 24)
  go_enter Try.func16, Try.ntmps16
  go_wp2_with fail
  generalize hv0 : w.alloc (.cells (feC a) 24) = v0 at *
  refine wp_region_held_drew (S := fun w' => Chg v0 w' []) (by kernel_rfl) ((Chg.refl v0 []).drew) (fun hHeld => ?_)
  refine take_load 0 (some 3) (feC a) rfl (by kernel_rfl) (by kernel_rfl) (by kernel_rfl) (fun _ _ _ h => h) rfl rfl 24 _ rfl w.heap.size rfl 24 _ (fun w h => F0.chg h (by simp)) Try.underlying24 rfl (by first | exact feInfo | kernel_rfl) hHeld ?_
  try simp only [Act.put, List.setIfInBounds_toArray, List.set_cons_zero, List.set_cons_succ]
  refine take_load 3 (some 6) (feC a) rfl (by kernel_rfl) (by kernel_rfl) (by kernel_rfl) (fun _ _ _ h => h) rfl rfl 24 _ rfl w.heap.size rfl 24 _ (fun w h => F0.chg h (by simp)) Try.underlying24 rfl (by first | exact feInfo | kernel_rfl) hHeld ?_
  try simp only [Act.put, List.setIfInBounds_toArray, List.set_cons_zero, List.set_cons_succ]
  refine wpAnyH_ready (rs := [1]) (by kernel_rfl) (by simp) ?_
  refine AllReadyH.cons (o := _) rfl (fun K hK => ?_) ?_
  ·
    go_simp
    refine (Value_r a ra _).mono ?_
    rintro e x1 ⟨rfl, k⟩
    go_wp2_with fail
    refine hK.out _ _ (hHeld.trans1 k) (fun hHeld => ?_)
    clear hK K
    try simp only [Act.put, List.setIfInBounds_toArray, List.set_cons_zero, List.set_cons_succ]
    refine wpAnyH_ready (rs := [2]) (by kernel_rfl) (by simp) ?_
    refine AllReadyH.cons (o := _) rfl (fun K hK => ?_) ?_
    ·
      go_simp
      refine (Back_r (rd a) _).mono ?_
      rintro e x2 ⟨rfl, k⟩
      rw [rd_int a ra.1]
      go_wp2_with fail
      refine hK.out _ _ (hHeld.trans1 k) (fun hHeld => ?_)
      clear hK K
      try simp only [Act.put, List.setIfInBounds_toArray, List.set_cons_zero, List.set_cons_succ]
      refine take_val (v := (.bool (eqf (a % P) a))) 4 (some 7) rfl (by kernel_rfl) (by kernel_rfl) (by kernel_rfl) (fun _ _ _ h => h) rfl rfl (fun w hSw => ?_) hHeld ?_
      · (go_simp; try with_reducible rfl)
      try simp only [Act.put, List.setIfInBounds_toArray, List.set_cons_zero, List.set_cons_succ]
      refine take_val (v := ?_) 5 (some 2) rfl (by kernel_rfl) (by kernel_rfl) (by kernel_rfl) (fun _ _ _ h => h) rfl rfl (fun w hSw => ?_) hHeld ?_
      rotate_left
      · (go_simp; try with_reducible rfl)
      try simp only [Act.put, List.setIfInBounds_toArray, List.set_cons_zero, List.set_cons_succ]
      refine wpAnyH_done (by kernel_rfl) ?_ _
      go_wp2
      go_ret
      exact ⟨rfl, C0.trans1 hHeld⟩
    exact AllReadyH.nil
  exact AllReadyH.nil
end Go.Proofs.Ytialljmkkichiaa
