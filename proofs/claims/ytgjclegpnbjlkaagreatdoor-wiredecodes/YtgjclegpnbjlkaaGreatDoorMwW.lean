/- Joined: W39, W40. -/
import Derived.Test.YtgjclegpnbjlkaaGreatDoorMxG
import Derived.Test.YtgjclegpnbjlkaaGreatDoorMxH
import Derived.Test.YtgjclegpnbjlkaaGreatDoorMwR
set_option linter.all false
namespace Go.Proofs.YtgjclegpnbjlkaaGreatDoor
set_option maxHeartbeats 8000000
set_option maxRecDepth 100000
open Go.RowKit
def sSum : ByteArray := ⟨#[115, 117, 109]⟩
theorem readFrame_head (v : Value) (P : ByteArray → Nat → Nat → Prop) (w : World)
   (hH : ∀ W, Chg w W [] → Calls Tryz.prog 67 #[v] W fun e w' => (∃ s a y, P s a y ∧ Gu W.heap.size s ((a : Nat) : Int) ((y : Nat) : Int) e w') ∧ Chg W w' []) :
   Calls Tryz.prog 60 #[v] w fun e w' => (∃ s a y, P s a y ∧ Gu w.heap.size s ((a : Nat) : Int) ((y : Nat) : Int) e w') ∧ Chg w w' [] := by
 have HH : Hid (∀ W, Chg w W [] → Calls Tryz.prog 67 #[v] W fun e w' => (∃ s a y, P s a y ∧ Gu W.heap.size s ((a : Nat) : Int) ((y : Nat) : Int) e w') ∧ Chg W w' []) := hH
 clear hH
 go_enter Tryz.func60, Tryz.ntmps60
 go_wp2_with (first
   | (with_reducible refine alloc_w rfl 35 rfl (.agg (msC (ms0 0))) zeroMsg (msC (ms0 0)) rfl ?_; intro ab w1 hab BA k1))
 refine (HH.out w1 k1).mono ?_
 rintro e w2 ⟨⟨s, a, y, hP, v5, rfl, hf⟩, k2⟩
 exact ⟨rfl, ⟨s, a, y, hP, v5, rfl, hf.lw k1.size⟩, k1.trans1 k2⟩
theorem readFrame_tail (g o n c z : Nat) (K : Int) (hz : z < n) (hc : n ≤ 9223372036854775807) (w : World)
   (hH : ∀ W, Chg w W [] → Calls Tryz.prog 67 #[.slice (some ⟨g, o, none⟩) n c] W fun e w' => e = .returned (.tuple #[.int .i64 K, .int .i64 (z : Int)]) ∧ Chg W w' []) :
   Calls Tryz.prog 60 #[.slice (some ⟨g, o, none⟩) n c] w fun e w' => Gu w.heap.size sTail (z : Int) 104 e w' ∧ Chg w w' [] := by
 have HH : Hid (∀ W, Chg w W [] → Calls Tryz.prog 67 #[.slice (some ⟨g, o, none⟩) n c] W fun e w' => e = .returned (.tuple #[.int .i64 K, .int .i64 (z : Int)]) ∧ Chg W w' []) := hH
 have hl : ¬ (n : Int) < (z : Int) := by omega
 have hl2 : (z : Int) < (n : Int) := by omega
 clear hH hz
 go_enter Tryz.func60, Tryz.ntmps60
 go_wp2_with (first
   | (with_reducible refine alloc_w rfl 35 rfl (.agg (msC (ms0 0))) zeroMsg (msC (ms0 0)) rfl ?_; intro ab w1 hab BA k1))
 refine (HH.out w1 k1).mono ?_
 rintro e w2 ⟨rfl, k2⟩
 have C2 := k1.trans1 k2
 clear k1 k2 BA
 go_wp2_with fail
 refine (giveUp_s sTail (z : Int) 104 w2).mono ?_
 rintro e w5 ⟨⟨v5, rfl, hf⟩, k5⟩
 exact ⟨rfl, ⟨v5, rfl, hf.lw C2.size⟩, C2.trans1 k5⟩
theorem readFrame_sum (g o n c A : Nat) (F : Nat → Nat) (K : Int) (hA : A + 4 = n) (hc : n ≤ c) (hc2 : c ≤ 9223372036854775807) (w : World) (hG : Gl w) (hB : Bs w g o n F) (hs : eqnW 4 (sha F A) (fun j => F (A + j)) = false)
   (hH : ∀ W, Chg w W [] → Calls Tryz.prog 67 #[.slice (some ⟨g, o, none⟩) n c] W fun e w' => e = .returned (.tuple #[.int .i64 K, .int .i64 (n : Int)]) ∧ Chg W w' []) :
   Calls Tryz.prog 60 #[.slice (some ⟨g, o, none⟩) n c] w fun e w' => Gu w.heap.size sSum (A : Int) 103 e w' ∧ Chg w w' [] := by
 have HH : Hid (∀ W, Chg w W [] → Calls Tryz.prog 67 #[.slice (some ⟨g, o, none⟩) n c] W fun e w' => e = .returned (.tuple #[.int .i64 K, .int .i64 (n : Int)]) ∧ Chg W w' []) := hH
 have HA : Hid (A + 4 = n ∧ n ≤ c ∧ c ≤ 9223372036854775807) := ⟨hA, hc, hc2⟩
 have HB : Hid (Bs w g o n F) := hB
 have HG : Hid (Gl w) := hG
 have HGL : Hid (g < w.heap.size) := hB.lt
 have HSU : Hid (∀ W cc, Chg w W [] → A ≤ cc → cc ≤ 9223372036854775807 → Calls Tryz.prog 32 #[.slice (some ⟨g, o, none⟩) A cc] W fun e w' => e = .returned (.agg (yC 4 (sha F A))) ∧ Chg W w' []) := fun W cc k h1 h2 =>
   sumOf_s _ A F W (HG.out.chg k (by simp) (by simp)) (((HB.out.chg k (by simp)).lo (by omega)).sl cc h1 h2) (by omega)
 have HQ : Hid (eqnW 4 (sha F A) (fun j => F (A + j)) = false) := hs
 have i0 : ¬ (n : Int) < (n : Int) := by omega
 have i1 : IntKind.i64.wrap ((n : Int) - 4) = (A : Int) := by rw [IntKind.wrap_i64]; omega
 have i2 : (A : Int) ≤ (n : Int) := by omega
 have i3 : (A : Int) ≤ (c : Int) := by omega
 have i4 : (n : Int) ≤ (c : Int) := by omega
 have i5 : (0 : Int) ≤ (A : Int) := by omega
 have i6 : ¬ c = A := by omega
 have i7 : n - A = 4 := by omega
 obtain ⟨SH, hSH⟩ : ∃ SH, sha F A = SH := ⟨_, rfl⟩
 rw [hSH] at HSU HQ
 clear hH  hA hc hc2 hG hB hs hSH
 go_enter Tryz.func60, Tryz.ntmps60
 go_wp2_with (first
   | (with_reducible refine alloc_w rfl 35 rfl (.agg (msC (ms0 0))) zeroMsg (msC (ms0 0)) rfl ?_; intro ab w1 hab BA k1))
 refine (HH.out w1 k1).mono ?_
 rintro e w2 ⟨rfl, k2⟩
 have HAB : Hid (w.heap.size ≤ ab) := hab
 have C2 := k1.trans1 k2
 have BA2 := BA.chg k2 (by simp)
 clear k1 k2 BA hab
 go_wp2_with fail
 refine lt_begin (fun w' => Bs w' g o n F) (fun _ => false) (by kernel_rfl) ?_
 have C3 := C2.drew
 have hHeld : Bs w2.drew g o n F := HB.out.chg C3 (by simp)
 have BA3 := BA2.drew
 obtain ⟨z, hz⟩ : ∃ z, z = w2.drew := ⟨_, rfl⟩
 rw [← hz] at hHeld C3 BA3 ⊢
 clear hz BA2 C2
 refine lv ?_ 0 (some 27) rfl (fun w => ?_) ?_; rotate_left; (· (go_simp; try with_reducible rfl)); try simp only [Act.put, sA]
 refine lv ?_ 1 (some 28) rfl (fun w => ?_) ?_; rotate_left; (· (go_simp; try with_reducible rfl)); try simp only [Act.put, sA]
 refine lv (.slice (some ⟨g, o, none⟩) A c) 2 (some 29) rfl (fun w => ?_) ?_; (· (go_simp; try with_reducible rfl)); try simp only [Act.put, sA]
 refine lv ?_ 4 (some 31) rfl (fun w => ?_) ?_; rotate_left; (· (go_simp; try with_reducible rfl)); try simp only [Act.put, sA]
 refine lv ?_ 5 (some 32) rfl (fun w => ?_) ?_; rotate_left; (· (go_simp; try with_reducible rfl)); try simp only [Act.put, sA]
 refine lv (.slice (some ⟨g, o + A, none⟩) 4 (c - A)) 6 (some 33) rfl (fun w => ?_) ?_; (· (go_simp; try with_reducible rfl)); try simp only [Act.put, sA]
 refine lv (.pointer (some ⟨g, o + A, none⟩)) 7 (some 34) rfl (fun w => ?_) ?_
 · have hat : ∀ W, (Instr.arrayAt 98 (.slice (some ⟨g, o + A, none⟩) 4 (c - A))).run Tryz.prog W = .ok (.pointer (some ⟨g, o + A, none⟩)) W := fun W => run_arrayAt (w := W) 98 _ 4 _ 4 (c - A) Tryz.underlying98 (by omega); (go_simp; try with_reducible rfl)
 try simp only [Act.put, sA]
 refine lr (.agg (yC 4 (fun j => F (A + j)))) 8 (some 35) rfl (fun w hSw => ?_) hHeld ?_
 · skip; exact (exec_load_m w 98 (.tmp 34) rfl g (o + A) rfl (yL 4 (fun j => F (A + j))) _ (by exact (hSw.sub A 4 (by have := HA.out; omega)).rg) Tryz.underlying98 rfl (by rw [yL_len]; exact s4InfoV))
 try simp only [Act.put, sA]
 refine lt_one 3 rfl (by kernel_rfl) rfl (fun K hK => ?_)
 go_simp
 refine (HSU.out _ c C3 (by have := HA.out; omega) HA.out.2.2).mono ?_
 rintro e w4 ⟨rfl, k4⟩
 go_wp2_with fail
 refine hK.out _ _ (fun _ h => h.chg k4 (by simp)) ?_
 replace hHeld := hHeld.chg k4 (by simp)
 have C4 := C3.trans1 k4
 have BA4 := BA3.chg k4 (by simp)
 clear C3 BA3 k4
 clear hK K
 try simp only [Act.put, sA]
 refine lv (.bool true) 9 (some 36) rfl (fun w => ?_) ?_; (· (go_simp; rw [HQ.out])); try simp only [Act.put, sA]
 refine lt_done (by kernel_rfl) ?_ _
 go_wp2_with fail
 refine (giveUp_s sSum (A : Int) 103 _).mono ?_
 rintro e w5 ⟨⟨v5, rfl, hf⟩, k5⟩
 exact ⟨rfl, ⟨v5, rfl, hf.lw C4.size⟩, C4.trans1 k5⟩
theorem readFrame_msg (g o n c A : Nat) (F : Nat → Nat) (K : Int) (P : ByteArray → Nat → Nat → Prop) (R : Nat → Ms → World → Prop) (hR : ∀ B M w' w'' l, R B M w' → Chg w' w'' l → (∀ y, y ∈ l → y < B) → R B M w'') (hA : A + 4 = n) (hc : n ≤ c) (hc2 : c ≤ 9223372036854775807) (w : World) (hG : Gl w) (hB : Bs w g o n F) (hs : eqnW 4 (sha F A) (fun j => F (A + j)) = true)
   (hH : ∀ W, Chg w W [] → Calls Tryz.prog 67 #[.slice (some ⟨g, o, none⟩) n c] W fun e w' => e = .returned (.tuple #[.int .i64 K, .int .i64 (n : Int)]) ∧ Chg W w' [])
   (hMs : ∀ W r, Rd W r (.slice (some ⟨g, o, none⟩) A c) ((10 : Nat) : Int) ⟨#[]⟩ 0 → Bs W g o A F → ¬ g = r → Calls Tryz.prog 86 #[.pointer (some ⟨r, 0, none⟩), .int .i64 K] W fun e w' => ((∃ s a y, P s a y ∧ Gu W.heap.size s ((a : Nat) : Int) ((y : Nat) : Int) e w') ∨ (∃ B M, W.heap.size ≤ B ∧ e = .returned (.agg (msC M)) ∧ (M.list.oneCell' = true ∧ M.text.oneCell' = true) ∧ R B M w')) ∧ Chg W w' [r]) :
   Calls Tryz.prog 60 #[.slice (some ⟨g, o, none⟩) n c] w fun e w' => ((∃ s a y, P s a y ∧ Gu w.heap.size s ((a : Nat) : Int) ((y : Nat) : Int) e w') ∨ (∃ B M, w.heap.size ≤ B ∧ e = .returned (.agg (msC M)) ∧ (M.list.oneCell' = true ∧ M.text.oneCell' = true) ∧ R B M w')) ∧ Chg w w' [] := by
 have HH : Hid (∀ W, Chg w W [] → Calls Tryz.prog 67 #[.slice (some ⟨g, o, none⟩) n c] W fun e w' => e = .returned (.tuple #[.int .i64 K, .int .i64 (n : Int)]) ∧ Chg W w' []) := hH
 have HMs : Hid (∀ W r, Rd W r (.slice (some ⟨g, o, none⟩) A c) ((10 : Nat) : Int) ⟨#[]⟩ 0 → Bs W g o A F → ¬ g = r → Calls Tryz.prog 86 #[.pointer (some ⟨r, 0, none⟩), .int .i64 K] W fun e w' => ((∃ s a y, P s a y ∧ Gu W.heap.size s ((a : Nat) : Int) ((y : Nat) : Int) e w') ∨ (∃ B M, W.heap.size ≤ B ∧ e = .returned (.agg (msC M)) ∧ (M.list.oneCell' = true ∧ M.text.oneCell' = true) ∧ R B M w')) ∧ Chg W w' [r]) := hMs
 have HST : Hid (∀ B M w' w'' l, R B M w' → Chg w' w'' l → (∀ y, y ∈ l → y < B) → R B M w'') := hR
 have HA : Hid (A + 4 = n ∧ n ≤ c ∧ c ≤ 9223372036854775807) := ⟨hA, hc, hc2⟩
 have HB : Hid (Bs w g o n F) := hB
 have HG : Hid (Gl w) := hG
 have HGL : Hid (g < w.heap.size) := hB.lt
 have HSU : Hid (∀ W cc, Chg w W [] → A ≤ cc → cc ≤ 9223372036854775807 → Calls Tryz.prog 32 #[.slice (some ⟨g, o, none⟩) A cc] W fun e w' => e = .returned (.agg (yC 4 (sha F A))) ∧ Chg W w' []) := fun W cc k h1 h2 =>
   sumOf_s _ A F W (HG.out.chg k (by simp) (by simp)) (((HB.out.chg k (by simp)).lo (by omega)).sl cc h1 h2) (by omega)
 have HQ : Hid (eqnW 4 (sha F A) (fun j => F (A + j)) = true) := hs
 have i0 : ¬ (n : Int) < (n : Int) := by omega
 have i1 : IntKind.i64.wrap ((n : Int) - 4) = (A : Int) := by rw [IntKind.wrap_i64]; omega
 have i2 : (A : Int) ≤ (n : Int) := by omega
 have i3 : (A : Int) ≤ (c : Int) := by omega
 have i4 : (n : Int) ≤ (c : Int) := by omega
 have i5 : (0 : Int) ≤ (A : Int) := by omega
 have i6 : ¬ c = A := by omega
 have i7 : n - A = 4 := by omega
 obtain ⟨SH, hSH⟩ : ∃ SH, sha F A = SH := ⟨_, rfl⟩
 rw [hSH] at HSU HQ
 clear hH hMs hR hA hc hc2 hG hB hs hSH
 go_enter Tryz.func60, Tryz.ntmps60
 go_wp2_with (first
   | (with_reducible refine alloc_w rfl 35 rfl (.agg (msC (ms0 0))) zeroMsg (msC (ms0 0)) rfl ?_; intro ab w1 hab BA k1))
 refine (HH.out w1 k1).mono ?_
 rintro e w2 ⟨rfl, k2⟩
 have HAB : Hid (w.heap.size ≤ ab) := hab
 have C2 := k1.trans1 k2
 have BA2 := BA.chg k2 (by simp)
 clear k1 k2 BA hab
 go_wp2_with fail
 refine lt_begin (fun w' => Bs w' g o n F) (fun _ => false) (by kernel_rfl) ?_
 have C3 := C2.drew
 have hHeld : Bs w2.drew g o n F := HB.out.chg C3 (by simp)
 have BA3 := BA2.drew
 obtain ⟨z, hz⟩ : ∃ z, z = w2.drew := ⟨_, rfl⟩
 rw [← hz] at hHeld C3 BA3 ⊢
 clear hz BA2 C2
 refine lv ?_ 0 (some 27) rfl (fun w => ?_) ?_; rotate_left; (· (go_simp; try with_reducible rfl)); try simp only [Act.put, sA]
 refine lv ?_ 1 (some 28) rfl (fun w => ?_) ?_; rotate_left; (· (go_simp; try with_reducible rfl)); try simp only [Act.put, sA]
 refine lv (.slice (some ⟨g, o, none⟩) A c) 2 (some 29) rfl (fun w => ?_) ?_; (· (go_simp; try with_reducible rfl)); try simp only [Act.put, sA]
 refine lv ?_ 4 (some 31) rfl (fun w => ?_) ?_; rotate_left; (· (go_simp; try with_reducible rfl)); try simp only [Act.put, sA]
 refine lv ?_ 5 (some 32) rfl (fun w => ?_) ?_; rotate_left; (· (go_simp; try with_reducible rfl)); try simp only [Act.put, sA]
 refine lv (.slice (some ⟨g, o + A, none⟩) 4 (c - A)) 6 (some 33) rfl (fun w => ?_) ?_; (· (go_simp; try with_reducible rfl)); try simp only [Act.put, sA]
 refine lv (.pointer (some ⟨g, o + A, none⟩)) 7 (some 34) rfl (fun w => ?_) ?_
 · have hat : ∀ W, (Instr.arrayAt 98 (.slice (some ⟨g, o + A, none⟩) 4 (c - A))).run Tryz.prog W = .ok (.pointer (some ⟨g, o + A, none⟩)) W := fun W => run_arrayAt (w := W) 98 _ 4 _ 4 (c - A) Tryz.underlying98 (by omega); (go_simp; try with_reducible rfl)
 try simp only [Act.put, sA]
 refine lr (.agg (yC 4 (fun j => F (A + j)))) 8 (some 35) rfl (fun w hSw => ?_) hHeld ?_
 · skip; exact (exec_load_m w 98 (.tmp 34) rfl g (o + A) rfl (yL 4 (fun j => F (A + j))) _ (by exact (hSw.sub A 4 (by have := HA.out; omega)).rg) Tryz.underlying98 rfl (by rw [yL_len]; exact s4InfoV))
 try simp only [Act.put, sA]
 refine lt_one 3 rfl (by kernel_rfl) rfl (fun K hK => ?_)
 go_simp
 refine (HSU.out _ c C3 (by have := HA.out; omega) HA.out.2.2).mono ?_
 rintro e w4 ⟨rfl, k4⟩
 go_wp2_with fail
 refine hK.out _ _ (fun _ h => h.chg k4 (by simp)) ?_
 replace hHeld := hHeld.chg k4 (by simp)
 have C4 := C3.trans1 k4
 have BA4 := BA3.chg k4 (by simp)
 clear C3 BA3 k4
 clear hK K
 try simp only [Act.put, sA]
 refine lv (.bool false) 9 (some 36) rfl (fun w => ?_) ?_; (· (go_simp; rw [HQ.out])); try simp only [Act.put, sA]
 refine lt_done (by kernel_rfl) ?_ _
 go_wp2_with (first
   | (refine store_w BR rfl 186 _ _ #[.slice (some ⟨g, o, none⟩) A c, .int .i64 10, .string ⟨#[]⟩, .int .i64 0] rfl rfl rfl rdrInfo rfl (by simp [Value.oneCell']) ?_; intro w6 BR6 k6)
   | (with_reducible refine alloc_w rfl 186 rfl (.agg #[.slice none 0 0, .int .i64 0, .string ⟨#[]⟩, .int .i64 0]) zeroRdr #[.slice none 0 0, .int .i64 0, .string ⟨#[]⟩, .int .i64 0] rfl ?_; intro r w5 hr BR k5))
 have R6 : Rd w6 r (.slice (some ⟨g, o, none⟩) A c) ((10 : Nat) : Int) ⟨#[]⟩ 0 := BR6
 have HR : Hid (w.heap.size ≤ r ∧ ¬ g = r ∧ ¬ ab = r) := by have := HGL.out; have := C4.size; have := BA4.lt; exact ⟨by omega, by omega, by omega⟩
 have C6 := (C4.trans1 k5).new k6 HR.out.1
 have BA6 := (BA4.chg k5 (by simp)).chg k6 (by simp; exact HR.out.2.2)
 have B6 := (HB.out.chg C6 (by simp)).lo (show A ≤ n by have := HA.out; omega)
 clear BR BR6 k5 k6 hr C4 BA4 hHeld
 refine (HMs.out w6 r R6 B6 HR.out.2.1).mono ?_
 rintro e w7 ⟨⟨s, a, y, hP, ⟨v5, rfl, hf⟩⟩ | ⟨B, M, hWB, rfl, hM1, hM2⟩, k7⟩
 · exact ⟨rfl, Or.inl ⟨s, a, y, hP, ⟨v5, rfl, hf.lw C6.size⟩⟩, C6.new k7 HR.out.1⟩
 have HM : Hid (M.list.oneCell' = true ∧ M.text.oneCell' = true) := hM1
 have HM2 : Hid (R B M w7) := hM2
 have HWB : Hid (w6.heap.size ≤ B ∧ w.heap.size ≤ w6.heap.size) := ⟨hWB, C6.size⟩
 have HAL : Hid (ab < w6.heap.size) := BA6.lt
 have C7 := C6.new k7 HR.out.1
 have BA7 := BA6.chg k7 (by simp; exact HR.out.2.2)
 clear R6 B6 C6 BA6 k7 hM1 hM2 hWB
 go_wp2_with (first
   | (refine store_w BA7 rfl 35 _ _ (msC M) rfl rfl rfl (by rw [msC_size]; exact msInfoV) (by rw [msC_size, msC_size]) (ms_oneC _ HM.out.1 HM.out.2) ?_; intro w13 BA13 k13))
 exact bodyPost_ret (results_cell_row Tryz.results60 _ _ ab 35 (msC M) (0, 0) _ rfl BA13 Tryz.underlying35 rfl (by rw [msC_size]; exact msInfoV)) rfl ⟨Or.inr ⟨B, M, Nat.le_trans HWB.out.2 HWB.out.1, rfl, HM.out, HST.out B M _ _ _ HM2.out k13 (by intro y hy; have := HWB.out; have := HAL.out; simp at hy; omega)⟩, C7.new k13 HAB.out⟩
end Go.Proofs.YtgjclegpnbjlkaaGreatDoor

set_option linter.all false
namespace Go.Proofs.YtgjclegpnbjlkaaGreatDoor
set_option maxHeartbeats 8000000
set_option maxRecDepth 100000
open Go.RowKit
def HdP (n : Nat) (F : Nat → Nat) (s : ByteArray) (a y : Nat) : Prop :=
 (∃ i, i < 4 ∧ (∀ j, j < i → F j = mgN j) ∧ ((n = i ∧ s = sFrame ∧ a = n ∧ y = 3) ∨ (i < n ∧ F i ≠ mgN i ∧ s = sMagic ∧ a = i ∧ y = 101))) ∨
 ((∀ j, j < 4 → F j = mgN j) ∧ ((n = 4 ∧ s = sFrame ∧ a = n ∧ y = 3) ∨ (5 ≤ n ∧ F 4 ≠ 1 ∧ s = sVersion ∧ a = 4 ∧ y = 102) ∨ (F 4 = 1 ∧
   ((n = 5 ∧ s = sFrame ∧ a = n ∧ y = 3) ∨ (6 ≤ n ∧ ¬ (1 ≤ F 5 ∧ F 5 ≤ 6) ∧ s = sKindH ∧ a = 5 ∧ y = 152) ∨ ((1 ≤ F 5 ∧ F 5 ≤ 6) ∧
     ((6 ≤ n ∧ n < 10 ∧ s = sFrame ∧ a = n ∧ y = 3) ∨ (10 ≤ n ∧ 1065189 < nm F 6 4 ∧ s = sLength ∧ a = 6 ∧ y = 10)))))))
def HdG (n : Nat) (F : Nat → Nat) : Prop := (∀ j, j < 4 → F j = mgN j) ∧ F 4 = 1 ∧ (1 ≤ F 5 ∧ F 5 ≤ 6) ∧ 10 ≤ n ∧ nm F 6 4 ≤ 1065189
theorem HdQ.good {w : World} {n : Nat} {F : Nat → Nat} {e : Ending} {w' : World} (h : HdQ w n F e w') (hG : HdG n F) : e = .returned (.tuple #[.int .i64 ((F 5 : Nat) : Int), .int .i64 (((14 + nm F 6 4 : Nat)) : Int)]) := by
 obtain ⟨g1, g2, g3, g4, g5⟩ := hG
 rcases h with ⟨i, hi, _, ⟨h1, _⟩ | ⟨h1, h2, _⟩⟩ | ⟨_, ⟨h1, _⟩ | ⟨_, h1, _⟩ | ⟨_, ⟨h1, _⟩ | ⟨_, h1, _⟩ | ⟨_, ⟨_, h1, _⟩ | ⟨_, h1, _⟩ | ⟨_, _, h1⟩⟩⟩⟩
 · omega
 · exact absurd (g1 i hi) h2
 · omega
 · exact absurd g2 h1
 · omega
 · exact absurd g3 h1
 · omega
 · omega
 · exact h1
theorem HdQ.bad {w : World} {n : Nat} {F : Nat → Nat} {e : Ending} {w' : World} (h : HdQ w n F e w') (hG : ¬ HdG n F) : ∃ s a y, HdP n F s a y ∧ Gu w.heap.size s ((a : Nat) : Int) ((y : Nat) : Int) e w' := by
 rcases h with ⟨i, hi, h0, ⟨h1, q⟩ | ⟨h1, h2, q⟩⟩ | ⟨h0, ⟨h1, q⟩ | ⟨h1, h2, q⟩ | ⟨h3, ⟨h1, q⟩ | ⟨h1, h2, q⟩ | ⟨h4, ⟨h1, h2, q⟩ | ⟨h1, h2, q⟩ | ⟨h1, h2, q⟩⟩⟩⟩
 · exact ⟨sFrame, n, 3, Or.inl ⟨i, hi, h0, Or.inl ⟨h1, rfl, rfl, rfl⟩⟩, q⟩
 · exact ⟨sMagic, i, 101, Or.inl ⟨i, hi, h0, Or.inr ⟨h1, h2, rfl, rfl, rfl⟩⟩, q⟩
 · exact ⟨sFrame, n, 3, Or.inr ⟨h0, Or.inl ⟨h1, rfl, rfl, rfl⟩⟩, q⟩
 · exact ⟨sVersion, 4, 102, Or.inr ⟨h0, Or.inr (Or.inl ⟨h1, h2, rfl, rfl, rfl⟩)⟩, q⟩
 · exact ⟨sFrame, n, 3, Or.inr ⟨h0, Or.inr (Or.inr ⟨h3, Or.inl ⟨h1, rfl, rfl, rfl⟩⟩)⟩, q⟩
 · exact ⟨sKindH, 5, 152, Or.inr ⟨h0, Or.inr (Or.inr ⟨h3, Or.inr (Or.inl ⟨h1, h2, rfl, rfl, rfl⟩)⟩)⟩, q⟩
 · exact ⟨sFrame, n, 3, Or.inr ⟨h0, Or.inr (Or.inr ⟨h3, Or.inr (Or.inr ⟨h4, Or.inl ⟨h1, h2, rfl, rfl, rfl⟩⟩)⟩)⟩, q⟩
 · exact ⟨sLength, 6, 10, Or.inr ⟨h0, Or.inr (Or.inr ⟨h3, Or.inr (Or.inr ⟨h4, Or.inr ⟨h1, h2, rfl, rfl, rfl⟩⟩)⟩)⟩, q⟩
 · exact absurd ⟨h0, h3, h4, h1, h2⟩ hG
def BdP (n : Nat) (F : Nat → Nat) (K : Nat) (s : ByteArray) (a y : Nat) : Prop := if K = 3 then Bd3 n F s a y else bdW n F K = some (s, a, y)
def Pk3 (n : Nat) (F : Nat → Nat) : Prop := (45 ≤ n ∧ ∀ i, i < F 44 → prW n (45 + 65 * i) (F (45 + 65 * i)) = 0) ∧ nm F (45 + 65 * F 44) 4 ≤ 1048575 ∧ n = 45 + 65 * F 44 + 4 + nm F (45 + 65 * F 44) 4
def BdR (n : Nat) (F : Nat → Nat) (K : Nat) (B : Nat) (M : Ms) (w : World) : Prop :=
 if K = 3 then Pk3 n F ∧ ∃ vl vt, M = { rd0 F 3 with list := vl, text := vt } ∧ OwnR w B 27 65 vl (F 44) (lsF F 45) ∧ Own w B vt (nm F (45 + 65 * F 44) 4) (fun j => F (45 + 65 * F 44 + 4 + j))
 else bdW n F K = none ∧ M = rdM F K
theorem BdR.far {n : Nat} {F : Nat → Nat} {K B : Nat} {M : Ms} {w w' : World} {l : List Nat} (h : BdR n F K B M w) (hc : Chg w w' l) (hl : ∀ y, y ∈ l → y < B) : BdR n F K B M w' := by
 unfold BdR at h ⊢
 split at h
 · rename_i hK
   rw [if_pos hK]
   obtain ⟨h1, vl, vt, h2, h3, h4⟩ := h
   exact ⟨h1, vl, vt, h2, h3.far hc hl, h4.far hc hl⟩
 · rename_i hK
   rw [if_neg hK]
   exact h
def FrQ (P : ByteArray → Nat → Nat → Prop) (R : Nat → Ms → World → Prop) (b : Nat) (e : Ending) (w' : World) : Prop :=
 (∃ s a y, P s a y ∧ Gu b s ((a : Nat) : Int) ((y : Nat) : Int) e w') ∨ (∃ B M, b ≤ B ∧ e = .returned (.agg (msC M)) ∧ (M.list.oneCell' = true ∧ M.text.oneCell' = true) ∧ R B M w')
theorem rdM_1 (F : Nat → Nat) (K : Nat) : (rdM F K).list.oneCell' = true ∧ (rdM F K).text.oneCell' = true := by
 unfold rdM
 repeat' split
 all_goals exact ⟨rfl, rfl⟩
theorem MgQ.fr {w : World} {r n : Nat} {F : Nat → Nat} {K : Nat} (hK : K ≠ 3) {e : Ending} {w' : World} (h : MgQ w r n F K e w') : FrQ (BdP n F K) (BdR n F K) w.heap.size e w' ∧ Chg w w' [r] := by
 refine ⟨?_, h.2⟩
 rcases h.1 with ⟨s, a, y, h1, h2⟩ | ⟨h1, h2⟩
 · exact Or.inl ⟨s, a, y, by unfold BdP; rw [if_neg hK]; exact h1, h2⟩
 · exact Or.inr ⟨w.heap.size, rdM F K, Nat.le_refl _, h2, rdM_1 F K, by unfold BdR; rw [if_neg hK]; exact ⟨h1, rfl⟩⟩
theorem Mg3.fr {w : World} {r n : Nat} {F : Nat → Nat} {e : Ending} {w' : World} (h : Mg3 w r n F e w') : FrQ (BdP n F 3) (BdR n F 3) w.heap.size e w' ∧ Chg w w' [r] := by
 refine ⟨?_, h.2⟩
 rcases h.1 with ⟨s, a, y, h1, h2⟩ | ⟨h1, vl, vt, B, h2, h3, h4, h5⟩
 · exact Or.inl ⟨s, a, y, h1, h2⟩
 · refine Or.inr ⟨B, _, h3, h2, ?_, h1, vl, vt, rfl, h4, h5⟩
   obtain ⟨p, c, rfl⟩ := h4.lenL
   obtain ⟨p', c', rfl⟩ := slFm h5.sl
   exact ⟨rfl, rfl⟩
theorem message_s (r n c g o : Nat) (F : Nat → Nat) (K : Nat) (hK : 1 ≤ K ∧ K ≤ 6) (b : Int) (s : ByteArray) (h10 : 10 ≤ n) (hn : n < c) (hn2 : c ≤ 9223372036854775807) (w : World) (h : Rd w r (.slice (some ⟨g, o, none⟩) n c) ((10 : Nat) : Int) s b) (hB : Bs w g o n F) (hgr : ¬ g = r) :
   Calls Tryz.prog 86 #[.pointer (some ⟨r, 0, none⟩), .int .i64 ((K : Nat) : Int)] w fun e w' => FrQ (BdP n F K) (BdR n F K) w.heap.size e w' ∧ Chg w w' [r] := by
 obtain rfl | rfl | rfl | rfl | rfl | rfl : K = 1 ∨ K = 2 ∨ K = 3 ∨ K = 4 ∨ K = 5 ∨ K = 6 := by omega
 · exact (message_k1 r n c g o F b s h10 hn hn2 w h hB hgr).mono fun e w' q => q.fr (by decide)
 · exact (message_k2 r n c g o F b s h10 hn hn2 w h hB hgr).mono fun e w' q => q.fr (by decide)
 · exact (message_k3 r n c g o F b s h10 hn hn2 w h hB hgr).mono fun e w' q => q.fr
 · exact (message_k4 r n c g o F b s h10 hn hn2 w h hB hgr).mono fun e w' q => q.fr (by decide)
 · exact (message_k5 r n c g o F b s h10 hn hn2 w h hB hgr).mono fun e w' q => q.fr (by decide)
 · exact (message_k6 r n c g o F b s h10 hn hn2 w h hB hgr).mono fun e w' q => q.fr (by decide)
def FrP (n : Nat) (F : Nat → Nat) (s : ByteArray) (a y : Nat) : Prop :=
 HdP n F s a y ∨ (HdG n F ∧ ((n < 14 + nm F 6 4 ∧ s = sFrame ∧ a = n ∧ y = 3) ∨ (14 + nm F 6 4 < n ∧ s = sTail ∧ a = 14 + nm F 6 4 ∧ y = 104) ∨
   (n = 14 + nm F 6 4 ∧ ((eqnW 4 (sha F (10 + nm F 6 4)) (fun j => F (10 + nm F 6 4 + j)) = false ∧ s = sSum ∧ a = 10 + nm F 6 4 ∧ y = 103) ∨
     (eqnW 4 (sha F (10 + nm F 6 4)) (fun j => F (10 + nm F 6 4 + j)) = true ∧ BdP (10 + nm F 6 4) F (F 5) s a y)))))
def FrR (n : Nat) (F : Nat → Nat) (B : Nat) (M : Ms) (w : World) : Prop :=
 HdG n F ∧ n = 14 + nm F 6 4 ∧ eqnW 4 (sha F (10 + nm F 6 4)) (fun j => F (10 + nm F 6 4 + j)) = true ∧ BdR (10 + nm F 6 4) F (F 5) B M w
theorem readFrame_s (g o n c : Nat) (F : Nat → Nat) (hc : n ≤ c) (hc2 : c ≤ 9223372036854775807) (w : World) (hG : Gl w) (hB : Bs w g o n F) :
   Calls Tryz.prog 60 #[.slice (some ⟨g, o, none⟩) n c] w fun e w' => FrQ (FrP n F) (FrR n F) w.heap.size e w' ∧ Chg w w' [] := by
 have HD : ∀ W, Chg w W [] → Calls Tryz.prog 67 #[.slice (some ⟨g, o, none⟩) n c] W fun e w' => HdQ W n F e w' ∧ Chg W w' [] := fun W k => readHead_s g o n c F hc hc2 W (hB.chg k (by simp))
 by_cases hg : HdG n F
 · have HK : ∀ W, Chg w W [] → Calls Tryz.prog 67 #[.slice (some ⟨g, o, none⟩) n c] W fun e w' => e = .returned (.tuple #[.int .i64 ((F 5 : Nat) : Int), .int .i64 (((14 + nm F 6 4 : Nat)) : Int)]) ∧ Chg W w' [] := fun W k => (HD W k).mono fun e w' q => ⟨q.1.good hg, q.2⟩
   by_cases h1 : n < 14 + nm F 6 4
   · exact (readFrame_short g o n c _ _ h1 (by omega) w HK).mono fun e w' q => ⟨Or.inl ⟨sFrame, n, 3, Or.inr ⟨hg, Or.inl ⟨h1, rfl, rfl, rfl⟩⟩, q.1⟩, q.2⟩
   by_cases h2 : 14 + nm F 6 4 < n
   · exact (readFrame_tail g o n c _ _ h2 (by omega) w HK).mono fun e w' q => ⟨Or.inl ⟨sTail, _, 104, Or.inr ⟨hg, Or.inr (Or.inl ⟨h2, rfl, rfl, rfl⟩)⟩, q.1⟩, q.2⟩
   have h3 : n = 14 + nm F 6 4 := by omega
   rw [← h3] at HK
   cases hs : eqnW 4 (sha F (10 + nm F 6 4)) (fun j => F (10 + nm F 6 4 + j)) with
   | false => exact (readFrame_sum g o n c (10 + nm F 6 4) F _ (by omega) hc hc2 w hG hB hs HK).mono fun e w' q => ⟨Or.inl ⟨sSum, _, 103, Or.inr ⟨hg, Or.inr (Or.inr ⟨h3, Or.inl ⟨hs, rfl, rfl, rfl⟩⟩)⟩, q.1⟩, q.2⟩
   | true =>
     refine (readFrame_msg g o n c (10 + nm F 6 4) F _ (BdP (10 + nm F 6 4) F (F 5)) (BdR (10 + nm F 6 4) F (F 5)) (fun B M w' w'' l a1 a2 a3 => a1.far a2 a3) (by omega) hc hc2 w hG hB hs HK (fun W r a1 a2 a3 => message_s r (10 + nm F 6 4) c g o F (F 5) hg.2.2.1 _ _ (by omega) (by omega) hc2 W a1 a2 a3)).mono fun e w' q => ⟨?_, q.2⟩
     rcases q.1 with ⟨s, a, y, q1, q2⟩ | ⟨B, M, q1, q2, q3, q4⟩
     · exact Or.inl ⟨s, a, y, Or.inr ⟨hg, Or.inr (Or.inr ⟨h3, Or.inr ⟨hs, q1⟩⟩)⟩, q2⟩
     · exact Or.inr ⟨B, M, q1, q2, q3, hg, h3, hs, q4⟩
 · refine (readFrame_head _ (HdP n F) w (fun W k => (HD W k).mono fun e w' q => ⟨q.1.bad hg, q.2⟩)).mono fun e w' q => ⟨?_, q.2⟩
   obtain ⟨s, a, y, q1, q2⟩ := q.1
   exact Or.inl ⟨s, a, y, Or.inl q1, q2⟩
def DcQ (P : ByteArray → Nat → Nat → Prop) (R : Nat → Ms → World → Prop) (b : Nat) (e : Ending) (w' : World) : Prop :=
 (∃ s a y, P s a y ∧ ∃ fv, e = .returned (.tuple #[.agg (msC (ms0 0)), fv]) ∧ Ft w' b fv s ((a : Nat) : Int) ((y : Nat) : Int)) ∨ (∃ B M, b ≤ B ∧ e = .returned (.tuple #[.agg (msC M), .nilIface]) ∧ R B M w')
theorem Decode_fr (v : Value) (P : ByteArray → Nat → Nat → Prop) (R : Nat → Ms → World → Prop) (hST : ∀ B M w' w'' l, R B M w' → Chg w' w'' l → (∀ y, y ∈ l → y < B) → R B M w'') (w : World) (hR : ∀ W, Chg w W [] → Calls Tryz.prog 60 #[v] W fun e w' => FrQ P R W.heap.size e w' ∧ Chg W w' []) :
   Calls Tryz.prog 15 #[v] w fun e w' => DcQ P R w.heap.size e w' ∧ Chg w w' [] := by
 have HR : Hid (∀ W, Chg w W [] → Calls Tryz.prog 60 #[v] W fun e w' => FrQ P R W.heap.size e w' ∧ Chg W w' []) := hR
 have HST : Hid (∀ B M w' w'' l, R B M w' → Chg w' w'' l → (∀ y, y ∈ l → y < B) → R B M w'') := hST
 have hmf : ∀ (fn : Fn) (first cap : Array Value) (w : World), (Instr.makeFunc fn first cap).run Tryz.prog w = .ok (.func fn first cap) w := fun _ _ _ _ => rfl
 clear hR hST
 go_enter_defers Tryz.func15, Tryz.ntmps15
 go_wp2_with (first
   | (have _h := BR; refine alloc_w rfl 54 rfl .nilIface zeroErr #[.nilIface] rfl ?_; intro eb w2 heb BE k2)
   | (with_reducible refine alloc_w rfl 35 rfl (.agg (msC (ms0 0))) zeroMsg (msC (ms0 0)) rfl ?_; intro rb w1 hrb BR k1))
 have K2 := k1.trans1 k2
 have HS : Hid (w.heap.size ≤ rb ∧ rb < eb ∧ w.heap.size ≤ eb ∧ eb < w2.heap.size) := ⟨hrb, Nat.lt_of_lt_of_le BR.lt heb, Nat.le_trans k1.size heb, BE.lt⟩
 have BR2 := BR.chg k2 (by simp)
 clear BR k1 k2 hrb heb
 refine (HR.out w2 K2).mono ?_
 rintro e w3 ⟨⟨s, a, y, hP, ⟨pv, rfl, g, rfl, hg, BF⟩⟩ | ⟨B, M, hWB, rfl, hM1, hM2⟩, k3⟩
 · have BR3 := BR2.chg k3 (by simp)
   have BE3 := BE.chg k3 (by simp)
   have C3 : Chg w w3 [] := K2.trans1 k3
   refine leaves_cons (f := 58) (args := #[.pointer (some ⟨eb, 0, none⟩)]) (by simp) (by simp [go_sem]) ?_
   refine (decode_caught ⟨eb, 0, none⟩ .nilIface (.pointer (some ⟨g, 0, none⟩)) [] _ (BE3.cell 0) (BE3.frozen 0)).mono ?_
   rintro e u' w'' ⟨rfl, rfl, rfl⟩
   have BR6 := BR3.setOther (show rb ≠ eb by have := HS.out; omega) 0 (.iface 106 (.pointer (some ⟨g, 0, none⟩)))
   have BE6 : Blk (w3.setCell ⟨eb, 0, none⟩ (.iface 106 (.pointer (some ⟨g, 0, none⟩)))) eb #[.iface 106 (.pointer (some ⟨g, 0, none⟩))] 54 := BE3.setCell 0 _
   have BF6 := BF.setOther (show g ≠ eb by have := HS.out; omega) 0 (.iface 106 (.pointer (some ⟨g, 0, none⟩)))
   exact ⟨_, results_ccW Tryz.results15 _ _ rb 35 (msC (ms0 0)) _ eb _ rfl rfl BR6 Tryz.underlying35 rfl (by rw [msC_size]; exact msInfoV) (load_err BE6), Or.inl ⟨s, a, y, hP, _, rfl, ⟨g, rfl, by have := K2.size; omega, BF6⟩⟩, C3.setNew HS.out.2.2.1 0 _⟩
 have HM : Hid (M.list.oneCell' = true ∧ M.text.oneCell' = true) := hM1
 have HM2 : Hid (R B M w3) := hM2
 have HWB : Hid (w2.heap.size ≤ B) := hWB
 clear hM1 hM2 hWB
 have BR3 := BR2.chg k3 (by simp)
 have HBE : Hid (Blk w3 eb #[.nilIface] 54) := BE.chg k3 (by simp)
 have C3 : Chg w w3 [] := K2.trans1 k3
 clear BR2 BE k3
 go_wp2_with (refine store_w BR3 rfl 35 _ _ (msC M) rfl rfl rfl (by rw [msC_size]; exact msInfoV) (by rw [msC_size, msC_size]) (ms_oneC _ HM.out.1 HM.out.2) ?_; intro w4 BR4 k4; have BE4 := HBE.out.chg k4 (by have := HS.out; simp; omega); have ce := BE4.cell 0; have fe := BE4.frozen 0)
 have BR5 := BR4.setOther (show rb ≠ eb by have := HS.out; omega) 0 .nilIface
 have BE5 : Blk (w4.setCell ⟨eb, 0, none⟩ .nilIface) eb #[.nilIface] 54 := BE4.setCell 0 _
 have HRW := HST.out B M _ _ [rb, eb] HM2.out ((((Chg.refl w3 [rb, eb]).trans k4 (fun y hy => Or.inl (by simp at hy ⊢; omega))).setIn (k := eb) (by simp) 0 .nilIface).setIn (k := eb) (by simp) 0 .nilIface) (by intro y hy; have := HS.out; have := HWB.out; have := K2.size; simp at hy; omega)
 have C5 : Chg w (w4.setCell ⟨eb, 0, none⟩ .nilIface) [] := (C3.new k4 HS.out.1).setNew HS.out.2.2.1 0 _
 refine leaves_cons (f := 58) (args := #[.pointer (some ⟨eb, 0, none⟩)]) (by simp) (by simp [go_sem]) ?_
 refine (decode_idle ⟨eb, 0, none⟩ _ (BE5.cell 0) (BE5.frozen 0)).mono ?_
 rintro e u' w'' ⟨rfl, rfl, rfl⟩
 have BR6 := BR5.setOther (show rb ≠ eb by have := HS.out; omega) 0 .nilIface
 have BE6 : Blk ((w4.setCell ⟨eb, 0, none⟩ .nilIface).setCell ⟨eb, 0, none⟩ .nilIface) eb #[.nilIface] 54 := BE5.setCell 0 _
 exact ⟨_, results_ccW Tryz.results15 _ _ rb 35 (msC M) _ eb .nilIface rfl rfl BR6 Tryz.underlying35 rfl (by rw [msC_size]; exact msInfoV) (load_err BE6), Or.inr ⟨B, M, Nat.le_trans K2.size HWB.out, rfl, HRW⟩, C5.setNew HS.out.2.2.1 0 _⟩
theorem Decode_s (g o n c : Nat) (F : Nat → Nat) (hc : n ≤ c) (hc2 : c ≤ 9223372036854775807) (w : World) (hG : Gl w) (hB : Bs w g o n F) :
   Calls Tryz.prog 15 #[.slice (some ⟨g, o, none⟩) n c] w fun e w' => DcQ (FrP n F) (FrR n F) w.heap.size e w' ∧ Chg w w' [] :=
 Decode_fr _ _ _ (fun B M w' w'' l a1 a2 a3 => ⟨a1.1, a1.2.1, a1.2.2.1, a1.2.2.2.far a2 a3⟩) w fun W k => readFrame_s g o n c F hc hc2 W (hG.chg k (by simp) (by simp)) (hB.chg k (by simp))
end Go.Proofs.YtgjclegpnbjlkaaGreatDoor
