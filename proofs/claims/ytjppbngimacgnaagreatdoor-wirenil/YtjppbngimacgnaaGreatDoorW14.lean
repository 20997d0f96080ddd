/- wire: the reader gives up. -/
import Derived.Test.YtjppbngimacgnaaGreatDoorW13
set_option linter.unusedVariables false
set_option linter.unusedSimpArgs false
set_option linter.unnecessarySimpa false
namespace Go.Proofs.YtjppbngimacgnaaGreatDoor
open Go.RowKit

theorem Ft.lw {w : World} {base base' : Nat} {v : Value} {s : ByteArray} {a y : Int} (h : Ft w base v s a y) (hb : base' ≤ base) : Ft w base' v s a y := by
  obtain ⟨g, h1, h2, h3⟩ := h
  exact ⟨g, h1, by omega, h3⟩
set_option maxHeartbeats 4000000 in
set_option maxRecDepth 100000 in
theorem wrong_s (r : Nat) (v : Value) (a b y : Int) (s : ByteArray) (w : World) (h : Rd w r v a s b) : Calls Tryz.prog 79 #[.pointer (some ⟨r, 0, none⟩), .int .i64 y] w fun e w' => Gu w.heap.size s b y e w' ∧ Chg w w' [] := by
  have HR : Hid (Rd w r v a s b) := h
  clear h
  go_enter Tryz.func79, Tryz.ntmps79
  go_wp2_with fail
  refine wp_region_held_drew (S := fun w' => Chg w w' []) (by kernel_rfl) ((Chg.refl w _).drew) (fun hHeld => ?_)
  refine take_val (v := ?_) 0 (some 4) rfl (by kernel_rfl) (by kernel_rfl) (by kernel_rfl) (fun _ _ _ h => h) rfl rfl (fun w hSw => ?_) hHeld ?_
  rotate_left
  · (go_simp; try with_reducible rfl)
  try simp only [Act.put, List.setIfInBounds_toArray, List.set_cons_zero, List.set_cons_succ]
  refine take_val (v := ?_) 1 (some 5) rfl (by kernel_rfl) (by kernel_rfl) (by kernel_rfl) (fun _ _ _ h => h) rfl rfl (fun w hSw => ?_) hHeld ?_
  rotate_left
  · (go_simp; try with_reducible rfl)
  try simp only [Act.put, List.setIfInBounds_toArray, List.set_cons_zero, List.set_cons_succ]
  refine take_val (v := ?_) 2 (some 6) rfl (by kernel_rfl) (by kernel_rfl) (by kernel_rfl) (fun _ _ _ h => h) rfl rfl (fun w hSw => ?_) hHeld ?_
  rotate_left
  · (go_simp; try with_reducible rfl)
  try simp only [Act.put, List.setIfInBounds_toArray, List.set_cons_zero, List.set_cons_succ]
  refine take_val (v := (.string s)) 3 (some 7) rfl (by kernel_rfl) (by kernel_rfl) (by kernel_rfl) (fun _ _ _ h => h) rfl rfl (fun w hSw => ?_) hHeld ?_
  · have c4 := (HR.out.chg hSw (by simp)).c2
    (go_simp; try with_reducible rfl)
  try simp only [Act.put, List.setIfInBounds_toArray, List.set_cons_zero, List.set_cons_succ]
  refine take_val (v := ?_) 4 (some 8) rfl (by kernel_rfl) (by kernel_rfl) (by kernel_rfl) (fun _ _ _ h => h) rfl rfl (fun w hSw => ?_) hHeld ?_
  rotate_left
  · (go_simp; try with_reducible rfl)
  try simp only [Act.put, List.setIfInBounds_toArray, List.set_cons_zero, List.set_cons_succ]
  refine take_val (v := ?_) 5 (some 9) rfl (by kernel_rfl) (by kernel_rfl) (by kernel_rfl) (fun _ _ _ h => h) rfl rfl (fun w hSw => ?_) hHeld ?_
  rotate_left
  · (go_simp; try with_reducible rfl)
  try simp only [Act.put, List.setIfInBounds_toArray, List.set_cons_zero, List.set_cons_succ]
  refine take_val (v := ?_) 6 (some 10) rfl (by kernel_rfl) (by kernel_rfl) (by kernel_rfl) (fun _ _ _ h => h) rfl rfl (fun w hSw => ?_) hHeld ?_
  rotate_left
  · (go_simp; try with_reducible rfl)
  try simp only [Act.put, List.setIfInBounds_toArray, List.set_cons_zero, List.set_cons_succ]
  refine take_val (v := (.int .i64 b)) 7 (some 11) rfl (by kernel_rfl) (by kernel_rfl) (by kernel_rfl) (fun _ _ _ h => h) rfl rfl (fun w hSw => ?_) hHeld ?_
  · have c4 := (HR.out.chg hSw (by simp)).c3
    (go_simp; try with_reducible rfl)
  try simp only [Act.put, List.setIfInBounds_toArray, List.set_cons_zero, List.set_cons_succ]
  refine take_val (v := ?_) 8 (some 12) rfl (by kernel_rfl) (by kernel_rfl) (by kernel_rfl) (fun _ _ _ h => h) rfl rfl (fun w hSw => ?_) hHeld ?_
  rotate_left
  · (go_simp; try with_reducible rfl)
  try simp only [Act.put, List.setIfInBounds_toArray, List.set_cons_zero, List.set_cons_succ]
  refine wpAnyH_ready (rs := [9]) (by kernel_rfl) (by simp) ?_
  refine AllReadyH.cons (o := _) rfl (fun K hK => ?_) ?_
  ·
    go_simp
    refine (giveUp_s s b y _).mono ?_
    rintro e w5 ⟨⟨v5, rfl, hf⟩, k5⟩
    exact ⟨rfl, ⟨v5, rfl, hf.lw hHeld.size⟩, hHeld.trans1 k5⟩
  exact AllReadyH.nil
set_option maxHeartbeats 4000000 in
set_option maxRecDepth 100000 in
theorem take_gu (r n c k : Nat) (p : Option Addr) (a : Nat) (b : Int) (s : ByteArray) (hk : n < a + k) (hn : n ≤ 9223372036854775807) (ha : a ≤ n) (hk2 : k ≤ 9223372036854775807) (w : World) (h : Rd w r (.slice p n c) (a : Int) s b) :
    Calls Tryz.prog 62 #[.pointer (some ⟨r, 0, none⟩), .int .i64 (k : Int)] w fun e w' => Gu w.heap.size s b 3 e w' ∧ Chg w w' [] := by
  have c0 := h.c0
  have c1 := h.c1
  have e1 : IntKind.i64.wrap ((n : Int) - (a : Int)) = (n : Int) - (a : Int) := by rw [IntKind.wrap_i64]; omega
  have e2 : (n : Int) - (a : Int) < (k : Int) := by omega
  have HR : Hid (Rd w r (.slice p n c) (a : Int) s b) := h
  clear hk hn ha hk2 h
  go_enter Tryz.func62, Tryz.ntmps62
  go_wp2_with fail
  go_quiet (fail)
  go_wp2_with fail
  refine (wrong_s r _ _ b 3 s _ (Blk.drewN HR.out _)).mono ?_
  rintro e w5 ⟨⟨v5, rfl, hf⟩, k5⟩
  exact ⟨rfl, ⟨v5, rfl, hf⟩, ((Chg.refl w []).drewN _).trans1 k5⟩
end Go.Proofs.YtjppbngimacgnaaGreatDoor
