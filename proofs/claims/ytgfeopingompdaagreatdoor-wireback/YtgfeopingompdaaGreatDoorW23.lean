/- wire: a fault's text. -/
import Derived.Test.YtgfeopingompdaaGreatDoorItoL
import Derived.Test.YtgfeopingompdaaGreatDoorIsL
import Derived.Test.YtgfeopingompdaaGreatDoorMwB
import Derived.Test.YtgfeopingompdaaGreatDoorSeL
import Derived.Laws.Strings
import Derived.Laws.BytesArg
set_option linter.unusedVariables false
set_option linter.unusedSimpArgs false
set_option linter.unnecessarySimpa false
namespace Go.Proofs.YtgfeopingompdaaGreatDoor
open Go.RowKit

def sRime : ByteArray := ⟨#[114, 105, 109, 101, 32]⟩
def sAt : ByteArray := ⟨#[32, 97, 116, 32]⟩
def sColon : ByteArray := ⟨#[58, 32]⟩
/-- What Itoa answers. -/
def ItA (y : Nat) (t : ByteArray) : Prop := t.size ≤ 1000 ∧ ∀ W, Calls Tryz.prog 89 #[.int .i64 (y : Int)] W fun e w' => e = .returned (.string t) ∧ w' = W
set_option maxHeartbeats 4000000 in
set_option maxRecDepth 100000 in
theorem ErrnoError_s (y : Nat) (t : ByteArray) (ht : ItA y t) (w : World) : Calls Tryz.prog 44 #[.int .i64 (y : Int)] w fun e w' => e = .returned (.string (sRime ++ t)) ∧ w' = w := by
  have hz : ¬ 9223372036854775807 < 5 + t.size := by have := ht.1; omega
  have HT : Hid (ItA y t) := ht
  clear ht
  go_enter Tryz.func44, Tryz.ntmps44
  go_wp2_with fail
  refine (HT.out.2 w).mono ?_
  rintro e w' ⟨rfl, rfl⟩
  go_wp2_with fail
  go_ret
  exact ⟨rfl, rfl⟩
set_option maxHeartbeats 4000000 in
set_option maxRecDepth 100000 in
theorem dec_1 (a : Nat) (ha : a < 10) (w : World) : Calls Tryz.prog 43 #[.int .i64 (a : Int)] w fun e w' => e = .returned (.string (strOfNums [48 + (a : Int)])) ∧ Chg w w' [] := by
  have l1 : (a : Int) < 10 := by omega
  have e0 : Int.tmod (a : Int) 10 = (a : Int) := by rw [Int.tmod_eq_emod_of_nonneg (by omega)]; omega
  have e1 : IntKind.i64.wrap (48 + (a : Int)) = 48 + (a : Int) := by rw [IntKind.wrap_i64]; omega
  have e2 : IntKind.u8.wrap (48 + (a : Int)) = 48 + (a : Int) := by rw [IntKind.wrap_u8']; omega
  have hcv : (convert 29 9 (.slice (some ⟨w.heap.size, 0, none⟩) 1 1)).run Tryz.prog (w.alloc (.cells #[.int .u8 (48 + (a : Int))] 5)) = .ok (.string (strOfNums [48 + (a : Int)])) (w.alloc (.cells #[.int .u8 (48 + (a : Int))] 5)) :=
    run_convert_bytes_arg _ 29 5 Tryz.underlying29 Tryz.underlying5 w.heap.size 0 1 1 [48 + (a : Int)] rfl (fun i hi => by
      obtain rfl : i = 0 := by omega
      simp [go_sem]) 9 Tryz.underlying9
  have k : Chg w (w.alloc (.cells #[.int .u8 (48 + (a : Int))] 5)) [] := (Chg.refl w []).alloc _
  go_enter Tryz.func43, Tryz.ntmps43
  go_wp2_with fail
  go_ret
  exact ⟨rfl, k⟩
set_option maxHeartbeats 4000000 in
set_option maxRecDepth 100000 in
theorem dec_49 (w : World) : Calls Tryz.prog 43 #[.int .i64 49] w fun e w' => e = .returned (.string (strOfNums [52] ++ strOfNums [57])) ∧ Chg w w' [] := by
  have hcv : (convert 29 9 (.slice (some ⟨w.heap.size, 0, none⟩) 1 1)).run Tryz.prog (w.alloc (.cells #[.int .u8 57] 5)) = .ok (.string (strOfNums [57])) (w.alloc (.cells #[.int .u8 57] 5)) :=
    run_convert_bytes_arg _ 29 5 Tryz.underlying29 Tryz.underlying5 w.heap.size 0 1 1 [57] rfl (fun i hi => by
      obtain rfl : i = 0 := by omega
      simp [go_sem]) 9 Tryz.underlying9
  have k : Chg w (w.alloc (.cells #[.int .u8 57] 5)) [] := (Chg.refl w []).alloc _
  have HD : Hid (∀ W, Calls Tryz.prog 43 #[.int .i64 4] W fun e w' => e = .returned (.string (strOfNums [52])) ∧ Chg W w' []) := fun W => dec_1 4 (by decide) W
  have s1 : (strOfNums [52]).size = 1 := by rfl
  have s2 : (strOfNums [57]).size = 1 := by rfl
  go_enter Tryz.func43, Tryz.ntmps43
  go_wp2_with fail
  refine (HD.out _).mono ?_
  rintro e w2 ⟨rfl, k2⟩
  go_wp2_with fail
  go_ret
  exact ⟨rfl, k.trans1 k2⟩
/-- A fault's text. -/
def ftx (s d t : ByteArray) : ByteArray := s ++ sAt ++ d ++ sColon ++ (sRime ++ t)
set_option maxHeartbeats 8000000 in
set_option maxRecDepth 100000 in
theorem FaultError_s (g : Nat) (s d t : ByteArray) (a y : Nat) (hs : s.size ≤ 1000) (hd : ItA a d) (ht : ItA y t) (w : World) (h : Blk w g #[.string s, .int .i64 (a : Int), .int .i64 (y : Int)] 111) : Calls Tryz.prog 42 #[.pointer (some ⟨g, 0, none⟩)] w fun e w' => e = .returned (.string (ftx s d t)) ∧ Chg w w' [] := by
  have HD : Hid (ItA a d) := hd
  have HE : Hid (∀ W, Calls Tryz.prog 44 #[.int .i64 (y : Int)] W fun e w' => e = .returned (.string (sRime ++ t)) ∧ w' = W) := fun W => ErrnoError_s y t ht W
  have hx : (sRime ++ t).size ≤ 1005 := by have := ht.1; rw [ByteArray.size_append]; show 5 + t.size ≤ 1005; omega
  have hd1 := hd.1
  obtain ⟨x, hX⟩ : ∃ x, sRime ++ t = x := ⟨_, rfl⟩
  have HF : Hid (ftx s d t = s ++ sAt ++ d ++ sColon ++ x) := by show _ = _; rw [← hX]; rfl
  rw [hX] at HE hx
  have n1 : ¬ 9223372036854775807 < s.size + 4 := by omega
  have n2 : ¬ 9223372036854775807 < s.size + 4 + d.size := by omega
  have n3 : ¬ 9223372036854775807 < s.size + 4 + d.size + 2 := by omega
  have n4 : ¬ 9223372036854775807 < s.size + 4 + d.size + 2 + x.size := by omega
  have HB : Hid (Blk w g #[.string s, .int .i64 (a : Int), .int .i64 (y : Int)] 111) := h
  rw [HF.out]
  clear hs hd ht hX hx hd1 h
  go_enter Tryz.func42, Tryz.ntmps42
  go_wp2_with fail
  refine lt_begin (fun w' => Blk w' g #[.string s, .int .i64 (a : Int), .int .i64 (y : Int)] 111) (fun _ => false) (by kernel_rfl) ?_
  have hHeld := HB.out.drew
  have C1 := (Chg.refl w []).drew
  obtain ⟨z, hz⟩ : ∃ z, z = w.drew := ⟨_, rfl⟩
  rw [← hz] at hHeld C1 ⊢
  clear hz
  refine lt_val (v := ?_) 0 (some 5) rfl (by kernel_rfl) (by kernel_rfl) (by kernel_rfl) (fun _ _ _ h => h) rfl rfl (fun w => ?_) ?_
  rotate_left
  · (go_simp; try with_reducible rfl)
  try simp only [Act.put, List.setIfInBounds_toArray, List.set_cons_zero, List.set_cons_succ]
  refine lt_val (v := ?_) 1 (some 6) rfl (by kernel_rfl) (by kernel_rfl) (by kernel_rfl) (fun _ _ _ h => h) rfl rfl (fun w => ?_) ?_
  rotate_left
  · (go_simp; try with_reducible rfl)
  try simp only [Act.put, List.setIfInBounds_toArray, List.set_cons_zero, List.set_cons_succ]
  refine lt_val (v := ?_) 2 (some 7) rfl (by kernel_rfl) (by kernel_rfl) (by kernel_rfl) (fun _ _ _ h => h) rfl rfl (fun w => ?_) ?_
  rotate_left
  · (go_simp; try with_reducible rfl)
  try simp only [Act.put, List.setIfInBounds_toArray, List.set_cons_zero, List.set_cons_succ]
  refine lt_read (v := (.string s)) 3 (some 8) rfl (by kernel_rfl) (by kernel_rfl) (by kernel_rfl) (by kernel_rfl) (fun _ _ _ h => h) rfl rfl (fun w hSw => ?_) hHeld ?_
  · have q0 := hSw.cell 0; have q1 := hSw.cell 1; have q2 := hSw.cell 2; (go_simp; try with_reducible rfl)
  try simp only [Act.put, List.setIfInBounds_toArray, List.set_cons_zero, List.set_cons_succ]
  refine lt_val (v := (.string (s ++ sAt))) 4 (some 9) rfl (by kernel_rfl) (by kernel_rfl) (by kernel_rfl) (fun _ _ _ h => h) rfl rfl (fun w => ?_) ?_
  · (go_simp; try rfl)
  try simp only [Act.put, List.setIfInBounds_toArray, List.set_cons_zero, List.set_cons_succ]
  refine lt_val (v := ?_) 5 (some 10) rfl (by kernel_rfl) (by kernel_rfl) (by kernel_rfl) (fun _ _ _ h => h) rfl rfl (fun w => ?_) ?_
  rotate_left
  · (go_simp; try with_reducible rfl)
  try simp only [Act.put, List.setIfInBounds_toArray, List.set_cons_zero, List.set_cons_succ]
  refine lt_val (v := ?_) 6 (some 11) rfl (by kernel_rfl) (by kernel_rfl) (by kernel_rfl) (fun _ _ _ h => h) rfl rfl (fun w => ?_) ?_
  rotate_left
  · (go_simp; try with_reducible rfl)
  try simp only [Act.put, List.setIfInBounds_toArray, List.set_cons_zero, List.set_cons_succ]
  refine lt_val (v := ?_) 7 (some 12) rfl (by kernel_rfl) (by kernel_rfl) (by kernel_rfl) (fun _ _ _ h => h) rfl rfl (fun w => ?_) ?_
  rotate_left
  · (go_simp; try with_reducible rfl)
  try simp only [Act.put, List.setIfInBounds_toArray, List.set_cons_zero, List.set_cons_succ]
  refine lt_read (v := (.int .i64 (a : Int))) 8 (some 13) rfl (by kernel_rfl) (by kernel_rfl) (by kernel_rfl) (by kernel_rfl) (fun _ _ _ h => h) rfl rfl (fun w hSw => ?_) hHeld ?_
  · have q0 := hSw.cell 0; have q1 := hSw.cell 1; have q2 := hSw.cell 2; (go_simp; try with_reducible rfl)
  try simp only [Act.put, List.setIfInBounds_toArray, List.set_cons_zero, List.set_cons_succ]
  refine lt_val (v := ?_) 12 (some 17) rfl (by kernel_rfl) (by kernel_rfl) (by kernel_rfl) (fun _ _ _ h => h) rfl rfl (fun w => ?_) ?_
  rotate_left
  · (go_simp; try with_reducible rfl)
  try simp only [Act.put, List.setIfInBounds_toArray, List.set_cons_zero, List.set_cons_succ]
  refine lt_val (v := ?_) 13 (some 18) rfl (by kernel_rfl) (by kernel_rfl) (by kernel_rfl) (fun _ _ _ h => h) rfl rfl (fun w => ?_) ?_
  rotate_left
  · (go_simp; try with_reducible rfl)
  try simp only [Act.put, List.setIfInBounds_toArray, List.set_cons_zero, List.set_cons_succ]
  refine lt_val (v := ?_) 14 (some 19) rfl (by kernel_rfl) (by kernel_rfl) (by kernel_rfl) (fun _ _ _ h => h) rfl rfl (fun w => ?_) ?_
  rotate_left
  · (go_simp; try with_reducible rfl)
  try simp only [Act.put, List.setIfInBounds_toArray, List.set_cons_zero, List.set_cons_succ]
  refine lt_read (v := (.int .i64 (y : Int))) 15 (some 20) rfl (by kernel_rfl) (by kernel_rfl) (by kernel_rfl) (by kernel_rfl) (fun _ _ _ h => h) rfl rfl (fun w hSw => ?_) hHeld ?_
  · have q0 := hSw.cell 0; have q1 := hSw.cell 1; have q2 := hSw.cell 2; (go_simp; try with_reducible rfl)
  try simp only [Act.put, List.setIfInBounds_toArray, List.set_cons_zero, List.set_cons_succ]
  refine lt_one 9 rfl (by kernel_rfl) rfl (fun K hK => ?_)
  go_simp
  refine (HD.out.2 _).mono ?_
  rintro e w2 ⟨rfl, rfl⟩
  go_wp2_with fail
  refine hK.out _ _ (fun _ h => h) ?_
  clear hK K
  try simp only [Act.put, List.setIfInBounds_toArray, List.set_cons_zero, List.set_cons_succ]
  refine lt_val (v := (.string (s ++ sAt ++ d))) 10 (some 15) rfl (by kernel_rfl) (by kernel_rfl) (by kernel_rfl) (fun _ _ _ h => h) rfl rfl (fun w => ?_) ?_
  · (have hq : sAt.size = 4 := rfl; have hq2 : sColon.size = 2 := rfl; go_simp; first | done | omega | (rw [if_neg (by omega)]; rfl) | rfl)
  try simp only [Act.put, List.setIfInBounds_toArray, List.set_cons_zero, List.set_cons_succ]
  refine lt_val (v := (.string (s ++ sAt ++ d ++ sColon))) 11 (some 16) rfl (by kernel_rfl) (by kernel_rfl) (by kernel_rfl) (fun _ _ _ h => h) rfl rfl (fun w => ?_) ?_
  · (have hq : sAt.size = 4 := rfl; have hq2 : sColon.size = 2 := rfl; go_simp; first | done | omega | (rw [if_neg (by omega)]; rfl) | rfl)
  try simp only [Act.put, List.setIfInBounds_toArray, List.set_cons_zero, List.set_cons_succ]
  refine lt_one 16 rfl (by kernel_rfl) rfl (fun K hK => ?_)
  go_simp
  refine (HE.out _).mono ?_
  rintro e w3 ⟨rfl, rfl⟩
  go_wp2_with fail
  refine hK.out _ _ (fun _ h => h) ?_
  clear hK K
  try simp only [Act.put, List.setIfInBounds_toArray, List.set_cons_zero, List.set_cons_succ]
  refine lt_val (v := (.string (s ++ sAt ++ d ++ sColon ++ x))) 17 (some 22) rfl (by kernel_rfl) (by kernel_rfl) (by kernel_rfl) (fun _ _ _ h => h) rfl rfl (fun w => ?_) ?_
  · (have hq : sAt.size = 4 := rfl; have hq2 : sColon.size = 2 := rfl; go_simp; first | done | omega | (rw [if_neg (by omega)]; rfl) | rfl)
  try simp only [Act.put, List.setIfInBounds_toArray, List.set_cons_zero, List.set_cons_succ]
  refine lt_val (v := ?_) 18 (some 2) rfl (by kernel_rfl) (by kernel_rfl) (by kernel_rfl) (fun _ _ _ h => h) rfl rfl (fun w => ?_) ?_
  rotate_left
  · (go_simp; try with_reducible rfl)
  try simp only [Act.put, List.setIfInBounds_toArray, List.set_cons_zero, List.set_cons_succ]
  refine lt_done (by kernel_rfl) ?_ _
  go_wp2_with fail
  go_ret
  exact ⟨rfl, C1⟩
end Go.Proofs.YtgfeopingompdaaGreatDoor
