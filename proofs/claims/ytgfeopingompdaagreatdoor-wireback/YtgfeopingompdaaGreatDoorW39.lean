/- wire: a frame is read, every way. -/
import Derived.Test.YtgfeopingompdaaGreatDoorW38
import Derived.Test.YtgfeopingompdaaGreatDoorW36
import Derived.Test.YtgfeopingompdaaGreatDoorW21
set_option linter.unusedVariables false
set_option linter.unusedSimpArgs false
set_option linter.unnecessarySimpa false
namespace Go.Proofs.YtgfeopingompdaaGreatDoor
open Go.RowKit

def sSum : ByteArray := ⟨#[115, 117, 109]⟩
set_option maxHeartbeats 8000000 in
set_option maxRecDepth 100000 in
theorem readFrame_head (v : Value) (P : ByteArray → Nat → Nat → Prop) (w : World)
    (hH : ∀ W, Chg w W [] → Calls Tryz.prog 70 #[v] W fun e w' => (∃ s a y, P s a y ∧ Gu W.heap.size s ((a : Nat) : Int) ((y : Nat) : Int) e w') ∧ Chg W w' []) :
    Calls Tryz.prog 63 #[v] w fun e w' => (∃ s a y, P s a y ∧ Gu w.heap.size s ((a : Nat) : Int) ((y : Nat) : Int) e w') ∧ Chg w w' [] := by
  have HH : Hid (∀ W, Chg w W [] → Calls Tryz.prog 70 #[v] W fun e w' => (∃ s a y, P s a y ∧ Gu W.heap.size s ((a : Nat) : Int) ((y : Nat) : Int) e w') ∧ Chg W w' []) := hH
  clear hH
  go_enter Tryz.func63, Tryz.ntmps63
  go_wp2_with (first
    | (with_reducible refine alloc_w rfl 35 rfl (.agg (msC (ms0 0))) zeroMsg (msC (ms0 0)) rfl ?_; intro ab w1 hab BA k1))
  refine (HH.out w1 k1).mono ?_
  rintro e w2 ⟨⟨s, a, y, hP, v5, rfl, hf⟩, k2⟩
  exact ⟨rfl, ⟨s, a, y, hP, v5, rfl, hf.lw k1.size⟩, k1.trans1 k2⟩
set_option maxHeartbeats 8000000 in
set_option maxRecDepth 100000 in
theorem readFrame_tail (g o n c z : Nat) (K : Int) (hz : z < n) (hc : n ≤ 9223372036854775807) (w : World)
    (hH : ∀ W, Chg w W [] → Calls Tryz.prog 70 #[.slice (some ⟨g, o, none⟩) n c] W fun e w' => e = .returned (.tuple #[.int .i64 K, .int .i64 (z : Int)]) ∧ Chg W w' []) :
    Calls Tryz.prog 63 #[.slice (some ⟨g, o, none⟩) n c] w fun e w' => Gu w.heap.size sTail (z : Int) 104 e w' ∧ Chg w w' [] := by
  have HH : Hid (∀ W, Chg w W [] → Calls Tryz.prog 70 #[.slice (some ⟨g, o, none⟩) n c] W fun e w' => e = .returned (.tuple #[.int .i64 K, .int .i64 (z : Int)]) ∧ Chg W w' []) := hH
  have hl : ¬ (n : Int) < (z : Int) := by omega
  have hl2 : (z : Int) < (n : Int) := by omega
  clear hH hz
  go_enter Tryz.func63, Tryz.ntmps63
  go_wp2_with (first
    | (with_reducible refine alloc_w rfl 35 rfl (.agg (msC (ms0 0))) zeroMsg (msC (ms0 0)) rfl ?_; intro ab w1 hab BA k1))
  refine (HH.out w1 k1).mono ?_
  rintro e w2 ⟨rfl, k2⟩
  have C2 := k1.trans1 k2
  clear k1 k2 BA
  go_wp2_with fail
  refine (giveUp_s sTail (z : Int) 104 w2).mono ?_
  rintro e w5 ⟨⟨v5, rfl, hf⟩, k5⟩
  exact ⟨rfl, ⟨v5, rfl, hf.lw C2.size⟩, C2.trans1 k5⟩
set_option maxHeartbeats 8000000 in
set_option maxRecDepth 100000 in
theorem readFrame_sum (g o n c A : Nat) (F : Nat → Nat) (K : Int) (hA : A + 4 = n) (hc : n ≤ c) (hc2 : c ≤ 9223372036854775807) (w : World) (hG : Gl w) (hB : Bs w g o n F) (hs : eqnW 4 (sha F A) (fun j => F (A + j)) = false)
    (hH : ∀ W, Chg w W [] → Calls Tryz.prog 70 #[.slice (some ⟨g, o, none⟩) n c] W fun e w' => e = .returned (.tuple #[.int .i64 K, .int .i64 (n : Int)]) ∧ Chg W w' []) :
    Calls Tryz.prog 63 #[.slice (some ⟨g, o, none⟩) n c] w fun e w' => Gu w.heap.size sSum (A : Int) 103 e w' ∧ Chg w w' [] := by
  have HH : Hid (∀ W, Chg w W [] → Calls Tryz.prog 70 #[.slice (some ⟨g, o, none⟩) n c] W fun e w' => e = .returned (.tuple #[.int .i64 K, .int .i64 (n : Int)]) ∧ Chg W w' []) := hH
  have HA : Hid (A + 4 = n ∧ n ≤ c ∧ c ≤ 9223372036854775807) := ⟨hA, hc, hc2⟩
  have HB : Hid (Bs w g o n F) := hB
  have HG : Hid (Gl w) := hG
  have HGL : Hid (g < w.heap.size) := hB.lt
  have HSU : Hid (∀ W cc, Chg w W [] → A ≤ cc → cc ≤ 9223372036854775807 → Calls Tryz.prog 35 #[.slice (some ⟨g, o, none⟩) A cc] W fun e w' => e = .returned (.agg (yC 4 (sha F A))) ∧ Chg W w' []) := fun W cc k h1 h2 =>
    sumOf_s _ A F W (HG.out.chg k (by simp) (by simp)) (((HB.out.chg k (by simp)).lo (by omega)).sl cc h1 h2) (by omega)
  have HQ : Hid (eqnW 4 (sha F A) (fun j => F (A + j)) = false) := hs
  have i0 : ¬ (n : Int) < (n : Int) := by omega
  have i1 : IntKind.i64.wrap ((n : Int) - 4) = (A : Int) := by rw [IntKind.wrap_i64]; omega
  have i2 : (A : Int) ≤ (n : Int) := by omega
  have i3 : (A : Int) ≤ (c : Int) := by omega
  have i4 : (n : Int) ≤ (c : Int) := by omega
  have i5 : (0 : Int) ≤ (A : Int) := by omega
  have i6 : ¬ c = A := by omega
  have i7 : n - A = 4 := by omega
  obtain ⟨SH, hSH⟩ : ∃ SH, sha F A = SH := ⟨_, rfl⟩
  rw [hSH] at HSU HQ
  clear hH  hA hc hc2 hG hB hs hSH
  go_enter Tryz.func63, Tryz.ntmps63
  go_wp2_with (first
    | (with_reducible refine alloc_w rfl 35 rfl (.agg (msC (ms0 0))) zeroMsg (msC (ms0 0)) rfl ?_; intro ab w1 hab BA k1))
  refine (HH.out w1 k1).mono ?_
  rintro e w2 ⟨rfl, k2⟩
  have HAB : Hid (w.heap.size ≤ ab) := hab
  have C2 := k1.trans1 k2
  have BA2 := BA.chg k2 (by simp)
  clear k1 k2 BA hab
  go_wp2_with fail
  refine lt_begin (fun w' => Bs w' g o n F) (fun _ => false) (by kernel_rfl) ?_
  have C3 := C2.drew
  have hHeld : Bs w2.drew g o n F := HB.out.chg C3 (by simp)
  have BA3 := BA2.drew
  obtain ⟨z, hz⟩ : ∃ z, z = w2.drew := ⟨_, rfl⟩
  rw [← hz] at hHeld C3 BA3 ⊢
  clear hz BA2 C2
  refine lt_val (v := ?_) 0 (some 27) rfl (by kernel_rfl) (by kernel_rfl) (by kernel_rfl) (fun _ _ _ h => h) rfl rfl (fun w => ?_) ?_
  rotate_left
  · (go_simp; try with_reducible rfl)
  try simp only [Act.put, List.setIfInBounds_toArray, List.set_cons_zero, List.set_cons_succ]
  refine lt_val (v := ?_) 1 (some 28) rfl (by kernel_rfl) (by kernel_rfl) (by kernel_rfl) (fun _ _ _ h => h) rfl rfl (fun w => ?_) ?_
  rotate_left
  · (go_simp; try with_reducible rfl)
  try simp only [Act.put, List.setIfInBounds_toArray, List.set_cons_zero, List.set_cons_succ]
  refine lt_val (v := (.slice (some ⟨g, o, none⟩) A c)) 2 (some 29) rfl (by kernel_rfl) (by kernel_rfl) (by kernel_rfl) (fun _ _ _ h => h) rfl rfl (fun w => ?_) ?_
  · (go_simp; try with_reducible rfl)
  try simp only [Act.put, List.setIfInBounds_toArray, List.set_cons_zero, List.set_cons_succ]
  refine lt_val (v := ?_) 4 (some 31) rfl (by kernel_rfl) (by kernel_rfl) (by kernel_rfl) (fun _ _ _ h => h) rfl rfl (fun w => ?_) ?_
  rotate_left
  · (go_simp; try with_reducible rfl)
  try simp only [Act.put, List.setIfInBounds_toArray, List.set_cons_zero, List.set_cons_succ]
  refine lt_val (v := ?_) 5 (some 32) rfl (by kernel_rfl) (by kernel_rfl) (by kernel_rfl) (fun _ _ _ h => h) rfl rfl (fun w => ?_) ?_
  rotate_left
  · (go_simp; try with_reducible rfl)
  try simp only [Act.put, List.setIfInBounds_toArray, List.set_cons_zero, List.set_cons_succ]
  refine lt_val (v := (.slice (some ⟨g, o + A, none⟩) 4 (c - A))) 6 (some 33) rfl (by kernel_rfl) (by kernel_rfl) (by kernel_rfl) (fun _ _ _ h => h) rfl rfl (fun w => ?_) ?_
  · (go_simp; try with_reducible rfl)
  try simp only [Act.put, List.setIfInBounds_toArray, List.set_cons_zero, List.set_cons_succ]
  refine lt_val (v := (.pointer (some ⟨g, o + A, none⟩))) 7 (some 34) rfl (by kernel_rfl) (by kernel_rfl) (by kernel_rfl) (fun _ _ _ h => h) rfl rfl (fun w => ?_) ?_
  · have hat : ∀ W, (Instr.arrayAt 100 (.slice (some ⟨g, o + A, none⟩) 4 (c - A))).run Tryz.prog W = .ok (.pointer (some ⟨g, o + A, none⟩)) W := fun W => run_arrayAt (w := W) 100 _ 4 _ 4 (c - A) Tryz.underlying100 (by omega); (go_simp; try with_reducible rfl)
  try simp only [Act.put, List.setIfInBounds_toArray, List.set_cons_zero, List.set_cons_succ]
  refine lt_read (v := (.agg (yC 4 (fun j => F (A + j))))) 8 (some 35) rfl (by kernel_rfl) (by kernel_rfl) (by kernel_rfl) (by kernel_rfl) (fun _ _ _ h => h) rfl rfl (fun w hSw => ?_) hHeld ?_
  · skip; exact (exec_load_m w 100 (.tmp 34) rfl g (o + A) rfl (yL 4 (fun j => F (A + j))) _ (by exact (hSw.sub A 4 (by have := HA.out; omega)).rg) Tryz.underlying100 rfl (by rw [yL_len]; exact s4InfoV))
  try simp only [Act.put, List.setIfInBounds_toArray, List.set_cons_zero, List.set_cons_succ]
  refine lt_one 3 rfl (by kernel_rfl) rfl (fun K hK => ?_)
  go_simp
  refine (HSU.out _ c C3 (by have := HA.out; omega) HA.out.2.2).mono ?_
  rintro e w4 ⟨rfl, k4⟩
  go_wp2_with fail
  refine hK.out _ _ (fun _ h => h.chg k4 (by simp)) ?_
  replace hHeld := hHeld.chg k4 (by simp)
  have C4 := C3.trans1 k4
  have BA4 := BA3.chg k4 (by simp)
  clear C3 BA3 k4
  clear hK K
  try simp only [Act.put, List.setIfInBounds_toArray, List.set_cons_zero, List.set_cons_succ]
  refine lt_val (v := (.bool true)) 9 (some 36) rfl (by kernel_rfl) (by kernel_rfl) (by kernel_rfl) (fun _ _ _ h => h) rfl rfl (fun w => ?_) ?_
  · (go_simp; rw [HQ.out])
  try simp only [Act.put, List.setIfInBounds_toArray, List.set_cons_zero, List.set_cons_succ]
  refine lt_done (by kernel_rfl) ?_ _
  go_wp2_with fail
  refine (giveUp_s sSum (A : Int) 103 _).mono ?_
  rintro e w5 ⟨⟨v5, rfl, hf⟩, k5⟩
  exact ⟨rfl, ⟨v5, rfl, hf.lw C4.size⟩, C4.trans1 k5⟩
set_option maxHeartbeats 8000000 in
set_option maxRecDepth 100000 in
theorem readFrame_msg (g o n c A : Nat) (F : Nat → Nat) (K : Int) (P : ByteArray → Nat → Nat → Prop) (R : Nat → Ms → World → Prop) (hR : ∀ B M w' w'' l, R B M w' → Chg w' w'' l → (∀ y, y ∈ l → y < B) → R B M w'') (hA : A + 4 = n) (hc : n ≤ c) (hc2 : c ≤ 9223372036854775807) (w : World) (hG : Gl w) (hB : Bs w g o n F) (hs : eqnW 4 (sha F A) (fun j => F (A + j)) = true)
    (hH : ∀ W, Chg w W [] → Calls Tryz.prog 70 #[.slice (some ⟨g, o, none⟩) n c] W fun e w' => e = .returned (.tuple #[.int .i64 K, .int .i64 (n : Int)]) ∧ Chg W w' [])
    (hMs : ∀ W r, Rd W r (.slice (some ⟨g, o, none⟩) A c) ((10 : Nat) : Int) ⟨#[]⟩ 0 → Bs W g o A F → ¬ g = r → Calls Tryz.prog 91 #[.pointer (some ⟨r, 0, none⟩), .int .i64 K] W fun e w' => ((∃ s a y, P s a y ∧ Gu W.heap.size s ((a : Nat) : Int) ((y : Nat) : Int) e w') ∨ (∃ B M, W.heap.size ≤ B ∧ e = .returned (.agg (msC M)) ∧ (M.list.oneCell' = true ∧ M.text.oneCell' = true) ∧ R B M w')) ∧ Chg W w' [r]) :
    Calls Tryz.prog 63 #[.slice (some ⟨g, o, none⟩) n c] w fun e w' => ((∃ s a y, P s a y ∧ Gu w.heap.size s ((a : Nat) : Int) ((y : Nat) : Int) e w') ∨ (∃ B M, w.heap.size ≤ B ∧ e = .returned (.agg (msC M)) ∧ (M.list.oneCell' = true ∧ M.text.oneCell' = true) ∧ R B M w')) ∧ Chg w w' [] := by
  have HH : Hid (∀ W, Chg w W [] → Calls Tryz.prog 70 #[.slice (some ⟨g, o, none⟩) n c] W fun e w' => e = .returned (.tuple #[.int .i64 K, .int .i64 (n : Int)]) ∧ Chg W w' []) := hH
  have HMs : Hid (∀ W r, Rd W r (.slice (some ⟨g, o, none⟩) A c) ((10 : Nat) : Int) ⟨#[]⟩ 0 → Bs W g o A F → ¬ g = r → Calls Tryz.prog 91 #[.pointer (some ⟨r, 0, none⟩), .int .i64 K] W fun e w' => ((∃ s a y, P s a y ∧ Gu W.heap.size s ((a : Nat) : Int) ((y : Nat) : Int) e w') ∨ (∃ B M, W.heap.size ≤ B ∧ e = .returned (.agg (msC M)) ∧ (M.list.oneCell' = true ∧ M.text.oneCell' = true) ∧ R B M w')) ∧ Chg W w' [r]) := hMs
  have HST : Hid (∀ B M w' w'' l, R B M w' → Chg w' w'' l → (∀ y, y ∈ l → y < B) → R B M w'') := hR
  have HA : Hid (A + 4 = n ∧ n ≤ c ∧ c ≤ 9223372036854775807) := ⟨hA, hc, hc2⟩
  have HB : Hid (Bs w g o n F) := hB
  have HG : Hid (Gl w) := hG
  have HGL : Hid (g < w.heap.size) := hB.lt
  have HSU : Hid (∀ W cc, Chg w W [] → A ≤ cc → cc ≤ 9223372036854775807 → Calls Tryz.prog 35 #[.slice (some ⟨g, o, none⟩) A cc] W fun e w' => e = .returned (.agg (yC 4 (sha F A))) ∧ Chg W w' []) := fun W cc k h1 h2 =>
    sumOf_s _ A F W (HG.out.chg k (by simp) (by simp)) (((HB.out.chg k (by simp)).lo (by omega)).sl cc h1 h2) (by omega)
  have HQ : Hid (eqnW 4 (sha F A) (fun j => F (A + j)) = true) := hs
  have i0 : ¬ (n : Int) < (n : Int) := by omega
  have i1 : IntKind.i64.wrap ((n : Int) - 4) = (A : Int) := by rw [IntKind.wrap_i64]; omega
  have i2 : (A : Int) ≤ (n : Int) := by omega
  have i3 : (A : Int) ≤ (c : Int) := by omega
  have i4 : (n : Int) ≤ (c : Int) := by omega
  have i5 : (0 : Int) ≤ (A : Int) := by omega
  have i6 : ¬ c = A := by omega
  have i7 : n - A = 4 := by omega
  obtain ⟨SH, hSH⟩ : ∃ SH, sha F A = SH := ⟨_, rfl⟩
  rw [hSH] at HSU HQ
  clear hH hMs hR hA hc hc2 hG hB hs hSH
  go_enter Tryz.func63, Tryz.ntmps63
  go_wp2_with (first
    | (with_reducible refine alloc_w rfl 35 rfl (.agg (msC (ms0 0))) zeroMsg (msC (ms0 0)) rfl ?_; intro ab w1 hab BA k1))
  refine (HH.out w1 k1).mono ?_
  rintro e w2 ⟨rfl, k2⟩
  have HAB : Hid (w.heap.size ≤ ab) := hab
  have C2 := k1.trans1 k2
  have BA2 := BA.chg k2 (by simp)
  clear k1 k2 BA hab
  go_wp2_with fail
  refine lt_begin (fun w' => Bs w' g o n F) (fun _ => false) (by kernel_rfl) ?_
  have C3 := C2.drew
  have hHeld : Bs w2.drew g o n F := HB.out.chg C3 (by simp)
  have BA3 := BA2.drew
  obtain ⟨z, hz⟩ : ∃ z, z = w2.drew := ⟨_, rfl⟩
  rw [← hz] at hHeld C3 BA3 ⊢
  clear hz BA2 C2
  refine lt_val (v := ?_) 0 (some 27) rfl (by kernel_rfl) (by kernel_rfl) (by kernel_rfl) (fun _ _ _ h => h) rfl rfl (fun w => ?_) ?_
  rotate_left
  · (go_simp; try with_reducible rfl)
  try simp only [Act.put, List.setIfInBounds_toArray, List.set_cons_zero, List.set_cons_succ]
  refine lt_val (v := ?_) 1 (some 28) rfl (by kernel_rfl) (by kernel_rfl) (by kernel_rfl) (fun _ _ _ h => h) rfl rfl (fun w => ?_) ?_
  rotate_left
  · (go_simp; try with_reducible rfl)
  try simp only [Act.put, List.setIfInBounds_toArray, List.set_cons_zero, List.set_cons_succ]
  refine lt_val (v := (.slice (some ⟨g, o, none⟩) A c)) 2 (some 29) rfl (by kernel_rfl) (by kernel_rfl) (by kernel_rfl) (fun _ _ _ h => h) rfl rfl (fun w => ?_) ?_
  · (go_simp; try with_reducible rfl)
  try simp only [Act.put, List.setIfInBounds_toArray, List.set_cons_zero, List.set_cons_succ]
  refine lt_val (v := ?_) 4 (some 31) rfl (by kernel_rfl) (by kernel_rfl) (by kernel_rfl) (fun _ _ _ h => h) rfl rfl (fun w => ?_) ?_
  rotate_left
  · (go_simp; try with_reducible rfl)
  try simp only [Act.put, List.setIfInBounds_toArray, List.set_cons_zero, List.set_cons_succ]
  refine lt_val (v := ?_) 5 (some 32) rfl (by kernel_rfl) (by kernel_rfl) (by kernel_rfl) (fun _ _ _ h => h) rfl rfl (fun w => ?_) ?_
  rotate_left
  · (go_simp; try with_reducible rfl)
  try simp only [Act.put, List.setIfInBounds_toArray, List.set_cons_zero, List.set_cons_succ]
  refine lt_val (v := (.slice (some ⟨g, o + A, none⟩) 4 (c - A))) 6 (some 33) rfl (by kernel_rfl) (by kernel_rfl) (by kernel_rfl) (fun _ _ _ h => h) rfl rfl (fun w => ?_) ?_
  · (go_simp; try with_reducible rfl)
  try simp only [Act.put, List.setIfInBounds_toArray, List.set_cons_zero, List.set_cons_succ]
  refine lt_val (v := (.pointer (some ⟨g, o + A, none⟩))) 7 (some 34) rfl (by kernel_rfl) (by kernel_rfl) (by kernel_rfl) (fun _ _ _ h => h) rfl rfl (fun w => ?_) ?_
  · have hat : ∀ W, (Instr.arrayAt 100 (.slice (some ⟨g, o + A, none⟩) 4 (c - A))).run Tryz.prog W = .ok (.pointer (some ⟨g, o + A, none⟩)) W := fun W => run_arrayAt (w := W) 100 _ 4 _ 4 (c - A) Tryz.underlying100 (by omega); (go_simp; try with_reducible rfl)
  try simp only [Act.put, List.setIfInBounds_toArray, List.set_cons_zero, List.set_cons_succ]
  refine lt_read (v := (.agg (yC 4 (fun j => F (A + j))))) 8 (some 35) rfl (by kernel_rfl) (by kernel_rfl) (by kernel_rfl) (by kernel_rfl) (fun _ _ _ h => h) rfl rfl (fun w hSw => ?_) hHeld ?_
  · skip; exact (exec_load_m w 100 (.tmp 34) rfl g (o + A) rfl (yL 4 (fun j => F (A + j))) _ (by exact (hSw.sub A 4 (by have := HA.out; omega)).rg) Tryz.underlying100 rfl (by rw [yL_len]; exact s4InfoV))
  try simp only [Act.put, List.setIfInBounds_toArray, List.set_cons_zero, List.set_cons_succ]
  refine lt_one 3 rfl (by kernel_rfl) rfl (fun K hK => ?_)
  go_simp
  refine (HSU.out _ c C3 (by have := HA.out; omega) HA.out.2.2).mono ?_
  rintro e w4 ⟨rfl, k4⟩
  go_wp2_with fail
  refine hK.out _ _ (fun _ h => h.chg k4 (by simp)) ?_
  replace hHeld := hHeld.chg k4 (by simp)
  have C4 := C3.trans1 k4
  have BA4 := BA3.chg k4 (by simp)
  clear C3 BA3 k4
  clear hK K
  try simp only [Act.put, List.setIfInBounds_toArray, List.set_cons_zero, List.set_cons_succ]
  refine lt_val (v := (.bool false)) 9 (some 36) rfl (by kernel_rfl) (by kernel_rfl) (by kernel_rfl) (fun _ _ _ h => h) rfl rfl (fun w => ?_) ?_
  · (go_simp; rw [HQ.out])
  try simp only [Act.put, List.setIfInBounds_toArray, List.set_cons_zero, List.set_cons_succ]
  refine lt_done (by kernel_rfl) ?_ _
  go_wp2_with (first
    | (refine store_w BR rfl 190 _ _ #[.slice (some ⟨g, o, none⟩) A c, .int .i64 10, .string ⟨#[]⟩, .int .i64 0] rfl rfl rfl rdrInfo rfl (by simp [Value.oneCell']) ?_; intro w6 BR6 k6)
    | (with_reducible refine alloc_w rfl 190 rfl (.agg #[.slice none 0 0, .int .i64 0, .string ⟨#[]⟩, .int .i64 0]) zeroRdr #[.slice none 0 0, .int .i64 0, .string ⟨#[]⟩, .int .i64 0] rfl ?_; intro r w5 hr BR k5))
  have R6 : Rd w6 r (.slice (some ⟨g, o, none⟩) A c) ((10 : Nat) : Int) ⟨#[]⟩ 0 := BR6
  have HR : Hid (w.heap.size ≤ r ∧ ¬ g = r ∧ ¬ ab = r) := by have := HGL.out; have := C4.size; have := BA4.lt; exact ⟨by omega, by omega, by omega⟩
  have C6 := (C4.trans1 k5).new k6 HR.out.1
  have BA6 := (BA4.chg k5 (by simp)).chg k6 (by simp; exact HR.out.2.2)
  have B6 := (HB.out.chg C6 (by simp)).lo (show A ≤ n by have := HA.out; omega)
  clear BR BR6 k5 k6 hr C4 BA4 hHeld
  refine (HMs.out w6 r R6 B6 HR.out.2.1).mono ?_
  rintro e w7 ⟨⟨s, a, y, hP, ⟨v5, rfl, hf⟩⟩ | ⟨B, M, hWB, rfl, hM1, hM2⟩, k7⟩
  · exact ⟨rfl, Or.inl ⟨s, a, y, hP, ⟨v5, rfl, hf.lw C6.size⟩⟩, C6.new k7 HR.out.1⟩
  have HM : Hid (M.list.oneCell' = true ∧ M.text.oneCell' = true) := hM1
  have HM2 : Hid (R B M w7) := hM2
  have HWB : Hid (w6.heap.size ≤ B ∧ w.heap.size ≤ w6.heap.size) := ⟨hWB, C6.size⟩
  have HAL : Hid (ab < w6.heap.size) := BA6.lt
  have C7 := C6.new k7 HR.out.1
  have BA7 := BA6.chg k7 (by simp; exact HR.out.2.2)
  clear R6 B6 C6 BA6 k7 hM1 hM2 hWB
  go_wp2_with (first
    | (refine store_w BA7 rfl 35 _ _ (msC M) rfl rfl rfl (by rw [msC_size]; exact msInfoV) (by rw [msC_size, msC_size]) (ms_oneC _ HM.out.1 HM.out.2) ?_; intro w13 BA13 k13))
  exact bodyPost_ret (results_cell_row Tryz.results63 _ _ ab 35 (msC M) (0, 0) _ rfl BA13 Tryz.underlying35 rfl (by rw [msC_size]; exact msInfoV)) rfl ⟨Or.inr ⟨B, M, Nat.le_trans HWB.out.2 HWB.out.1, rfl, HM.out, HST.out B M _ _ _ HM2.out k13 (by intro y hy; have := HWB.out; have := HAL.out; simp at hy; omega)⟩, C7.new k13 HAB.out⟩
end Go.Proofs.YtgfeopingompdaaGreatDoor
