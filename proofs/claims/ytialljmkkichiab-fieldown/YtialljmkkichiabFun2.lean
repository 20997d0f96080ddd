/- Canonical, Equal .. -/
import Derived.Test.YtialljmkkichiabEq
set_option linter.unusedVariables false
set_option linter.unusedSimpArgs false
set_option linter.unnecessarySimpa false
namespace Go.Proofs.Ytialljmkkichiab
open Go.RowKit N

set_option maxHeartbeats 4000000 in
set_option maxRecDepth 100000 in
theorem Canonical_fe (a : Int) (ra : R256 a) (w : World) :
    Calls Try.prog 23 #[fe a] w fun e w' => e = .returned (.bool (eqf a (a % P))) ∧ Chg w w' [] := by
  have hge := feGuard
  have F0 := Blk.new w (feC a) 23
  have C0 := (Chg.refl w []).alloc (.cells (feC a) 23)
  go_enter Try.func23, Try.ntmps23
  go_wp2_with fail
  generalize w.alloc (.cells (feC a) 23) = v0 at *
  refine wp_region_held_drew (S := fun w' => Chg v0 w' []) (by kernel_rfl) ((Chg.refl v0 []).drew) (fun hHeld => ?_)
  refine take_load 0 (some 3) (feC a) rfl (by kernel_rfl) (by kernel_rfl) (by kernel_rfl) (fun _ _ _ h => h) rfl rfl 23 _ rfl w.heap.size rfl 23 _ (fun w h => F0.chg h (by simp)) Try.underlying23 rfl (by first | exact feInfo | kernel_rfl) hHeld ?_
  try simp only [Act.put, List.setIfInBounds_toArray, List.set_cons_zero, List.set_cons_succ]
  refine take_load 1 (some 4) (feC a) rfl (by kernel_rfl) (by kernel_rfl) (by kernel_rfl) (fun _ _ _ h => h) rfl rfl 23 _ rfl w.heap.size rfl 23 _ (fun w h => F0.chg h (by simp)) Try.underlying23 rfl (by first | exact feInfo | kernel_rfl) hHeld ?_
  try simp only [Act.put, List.setIfInBounds_toArray, List.set_cons_zero, List.set_cons_succ]
  refine wpAnyH_ready (rs := [2]) (by kernel_rfl) (by simp) ?_
  refine AllReadyH.cons (o := _) rfl (fun K hK => ?_) ?_
  ·
    go_simp
    refine (canonical_fe a ra _).mono ?_
    rintro e v1 ⟨rfl, k⟩
    go_wp2_with fail
    refine hK.out _ _ (hHeld.trans1 k) (fun hHeld => ?_)
    clear hK K
    try simp only [Act.put, List.setIfInBounds_toArray, List.set_cons_zero, List.set_cons_succ]
    refine take_val (v := ?_) 3 (some 6) rfl (by kernel_rfl) (by kernel_rfl) (by kernel_rfl) (fun _ _ _ h => h) rfl rfl (fun w hSw => ?_) hHeld ?_
    rotate_left
    · (go_simp; try with_reducible rfl)
    try simp only [Act.put, List.setIfInBounds_toArray, List.set_cons_zero, List.set_cons_succ]
    refine take_val (v := ?_) 4 (some 2) rfl (by kernel_rfl) (by kernel_rfl) (by kernel_rfl) (fun _ _ _ h => h) rfl rfl (fun w hSw => ?_) hHeld ?_
    rotate_left
    · (go_simp; try with_reducible rfl)
    try simp only [Act.put, List.setIfInBounds_toArray, List.set_cons_zero, List.set_cons_succ]
    refine wpAnyH_done (by kernel_rfl) ?_ _
    go_wp2
    go_ret
    exact ⟨rfl, C0.trans1 hHeld⟩
  exact AllReadyH.nil
end Go.Proofs.Ytialljmkkichiab
