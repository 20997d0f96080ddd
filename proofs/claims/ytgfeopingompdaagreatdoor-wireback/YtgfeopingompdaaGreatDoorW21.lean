/- wire: a frame is read. -/
import Derived.Test.YtgfeopingompdaaGreatDoorW20
import Derived.Test.YtgfeopingompdaaGreatDoorMwC
import Derived.Test.YtgfeopingompdaaGreatDoorW2
import Derived.Laws.Cover3
set_option linter.unusedVariables false
set_option linter.unusedSimpArgs false
set_option linter.unnecessarySimpa false
namespace Go.Proofs.YtgfeopingompdaaGreatDoor
open Go.RowKit

theorem msInfoV : (Tryz.prog.info? 35).map (·.size) = some 231 := by kernel_rfl
theorem s4InfoV : (Tryz.prog.info? 100).map (·.size) = some 4 := by kernel_rfl
theorem u8InfoV : ∃ i, Tryz.prog.info? 5 = some i := Option.isSome_iff_exists.1 (by kernel_rfl)
theorem u8CellsV : Tryz.prog.cellsOf 5 = 1 := by kernel_rfl
/-- Are n bytes the same? -/
def eqnW (n : Nat) (f g : Nat → Nat) : Bool := (List.range n).all fun i => ((f i : Nat) : Int) == ((g i : Nat) : Int)
theorem eqnW_iff (n : Nat) (f g : Nat → Nat) : eqnW n f g = true ↔ ∀ i, i < n → f i = g i := by
  simp [eqnW, Int.natCast_inj]
theorem eqnW_self (n : Nat) (f : Nat → Nat) : eqnW n f f = true := (eqnW_iff n f f).2 fun _ _ => rfl
@[go_sem] theorem eq_sum4 (f g : Nat → Nat) (w : World) : (Op.equalIn 10000 100 (.agg (yC 4 f)) (.agg (yC 4 g))).run Tryz.prog w = .ok (eqnW 4 f g) w := by
  obtain ⟨i, hi⟩ := u8InfoV
  rw [show (10000 : Nat) = 9998 + 1 + 1 from rfl, run_equalIn_array w 9999 _ _ Tryz.underlying100 hi, u8CellsV]
  exact eqItems_ints w 9998 Tryz.underlying5 _ _ (fun i => ((f i : Nat) : Int)) (fun i => ((g i : Nat) : Int)) (List.range 4) (fun j hj => ⟨yC_get 4 f j (by simpa using hj), yC_get 4 g j (by simpa using hj)⟩)
theorem Bs.lo {w : World} {g o n m : Nat} {f : Nat → Nat} (h : Bs w g o n f) (hm : m ≤ n) : Bs w g o m f := ⟨h.lt, fun i hi => h.bd i (by omega), fun i hi => h.cell i (by omega)⟩
set_option maxHeartbeats 8000000 in
set_option maxRecDepth 100000 in
theorem readFrame_short (g o n c z : Nat) (K : Int) (hz : n < z) (hc : n ≤ 9223372036854775807) (w : World)
    (hH : ∀ W, Chg w W [] → Calls Tryz.prog 70 #[.slice (some ⟨g, o, none⟩) n c] W fun e w' => e = .returned (.tuple #[.int .i64 K, .int .i64 (z : Int)]) ∧ Chg W w' []) :
    Calls Tryz.prog 63 #[.slice (some ⟨g, o, none⟩) n c] w fun e w' => Gu w.heap.size sFrame (n : Int) 3 e w' ∧ Chg w w' [] := by
  have HH : Hid (∀ W, Chg w W [] → Calls Tryz.prog 70 #[.slice (some ⟨g, o, none⟩) n c] W fun e w' => e = .returned (.tuple #[.int .i64 K, .int .i64 (z : Int)]) ∧ Chg W w' []) := hH
  have hl : (n : Int) < (z : Int) := by omega
  clear hH hz
  go_enter Tryz.func63, Tryz.ntmps63
  go_wp2_with (first
    | (with_reducible refine alloc_w rfl 35 rfl (.agg (msC (ms0 0))) zeroMsg (msC (ms0 0)) rfl ?_; intro ab w1 hab BA k1))
  refine (HH.out w1 k1).mono ?_
  rintro e w2 ⟨rfl, k2⟩
  have C2 := k1.trans1 k2
  clear k1 k2 BA
  go_wp2_with fail
  refine (giveUp_s sFrame (n : Int) 3 w2).mono ?_
  rintro e w5 ⟨⟨v5, rfl, hf⟩, k5⟩
  exact ⟨rfl, ⟨v5, rfl, hf.lw C2.size⟩, C2.trans1 k5⟩
set_option maxHeartbeats 8000000 in
set_option maxRecDepth 100000 in
theorem readFrame_ok (g o n c A : Nat) (F : Nat → Nat) (K : Int) (M : Ms) (hM : M.list.oneCell' = true ∧ M.text.oneCell' = true) (hA : A + 4 = n) (hc : n ≤ c) (hc2 : c ≤ 9223372036854775807) (w : World) (hG : Gl w) (hB : Bs w g o n F) (hs : ∀ j, j < 4 → F (A + j) = sha F A j)
    (hH : ∀ W, Chg w W [] → Calls Tryz.prog 70 #[.slice (some ⟨g, o, none⟩) n c] W fun e w' => e = .returned (.tuple #[.int .i64 K, .int .i64 (n : Int)]) ∧ Chg W w' [])
    (hMs : ∀ W r, Rd W r (.slice (some ⟨g, o, none⟩) A c) ((10 : Nat) : Int) ⟨#[]⟩ 0 → Bs W g o A F → ¬ g = r → Calls Tryz.prog 91 #[.pointer (some ⟨r, 0, none⟩), .int .i64 K] W fun e w' => e = .returned (.agg (msC M)) ∧ Chg W w' [r]) :
    Calls Tryz.prog 63 #[.slice (some ⟨g, o, none⟩) n c] w fun e w' => e = .returned (.agg (msC M)) ∧ Chg w w' [] := by
  have HH : Hid (∀ W, Chg w W [] → Calls Tryz.prog 70 #[.slice (some ⟨g, o, none⟩) n c] W fun e w' => e = .returned (.tuple #[.int .i64 K, .int .i64 (n : Int)]) ∧ Chg W w' []) := hH
  have HMs : Hid (∀ W r, Rd W r (.slice (some ⟨g, o, none⟩) A c) ((10 : Nat) : Int) ⟨#[]⟩ 0 → Bs W g o A F → ¬ g = r → Calls Tryz.prog 91 #[.pointer (some ⟨r, 0, none⟩), .int .i64 K] W fun e w' => e = .returned (.agg (msC M)) ∧ Chg W w' [r]) := hMs
  have HM : Hid (M.list.oneCell' = true ∧ M.text.oneCell' = true) := hM
  have HA : Hid (A + 4 = n ∧ n ≤ c ∧ c ≤ 9223372036854775807) := ⟨hA, hc, hc2⟩
  have HB : Hid (Bs w g o n F) := hB
  have HG : Hid (Gl w) := hG
  have HGL : Hid (g < w.heap.size) := hB.lt
  have HSU : Hid (∀ W cc, Chg w W [] → A ≤ cc → cc ≤ 9223372036854775807 → Calls Tryz.prog 35 #[.slice (some ⟨g, o, none⟩) A cc] W fun e w' => e = .returned (.agg (yC 4 (sha F A))) ∧ Chg W w' []) := fun W cc k h1 h2 =>
    sumOf_s _ A F W (HG.out.chg k (by simp) (by simp)) (((HB.out.chg k (by simp)).lo (by omega)).sl cc h1 h2) (by omega)
  have HS4 : Hid (yL 4 (fun j => F (A + j)) = yL 4 (sha F A)) := List.map_congr_left fun j hj => by show Value.int .u8 ((F (A + j) : Nat) : Int) = _; rw [hs j (by simpa using hj)]
  have i0 : ¬ (n : Int) < (n : Int) := by omega
  have i1 : IntKind.i64.wrap ((n : Int) - 4) = (A : Int) := by rw [IntKind.wrap_i64]; omega
  have i2 : (A : Int) ≤ (n : Int) := by omega
  have i3 : (A : Int) ≤ (c : Int) := by omega
  have i4 : (n : Int) ≤ (c : Int) := by omega
  have i5 : (0 : Int) ≤ (A : Int) := by omega
  have i6 : ¬ c = A := by omega
  have i7 : n - A = 4 := by omega
  obtain ⟨SH, hSH⟩ : ∃ SH, sha F A = SH := ⟨_, rfl⟩
  rw [hSH] at HSU HS4
  clear hH hMs hM hA hc hc2 hG hB hs hSH
  go_enter Tryz.func63, Tryz.ntmps63
  go_wp2_with (first
    | (with_reducible refine alloc_w rfl 35 rfl (.agg (msC (ms0 0))) zeroMsg (msC (ms0 0)) rfl ?_; intro ab w1 hab BA k1))
  refine (HH.out w1 k1).mono ?_
  rintro e w2 ⟨rfl, k2⟩
  have HAB : Hid (w.heap.size ≤ ab) := hab
  have C2 := k1.trans1 k2
  have BA2 := BA.chg k2 (by simp)
  clear k1 k2 BA hab
  go_wp2_with fail
  refine lt_begin (fun w' => Bs w' g o n F) (fun _ => false) (by kernel_rfl) ?_
  have C3 := C2.drew
  have hHeld : Bs w2.drew g o n F := HB.out.chg C3 (by simp)
  have BA3 := BA2.drew
  obtain ⟨z, hz⟩ : ∃ z, z = w2.drew := ⟨_, rfl⟩
  rw [← hz] at hHeld C3 BA3 ⊢
  clear hz BA2 C2
  refine lt_val (v := ?_) 0 (some 27) rfl (by kernel_rfl) (by kernel_rfl) (by kernel_rfl) (fun _ _ _ h => h) rfl rfl (fun w => ?_) ?_
  rotate_left
  · (go_simp; try with_reducible rfl)
  try simp only [Act.put, List.setIfInBounds_toArray, List.set_cons_zero, List.set_cons_succ]
  refine lt_val (v := ?_) 1 (some 28) rfl (by kernel_rfl) (by kernel_rfl) (by kernel_rfl) (fun _ _ _ h => h) rfl rfl (fun w => ?_) ?_
  rotate_left
  · (go_simp; try with_reducible rfl)
  try simp only [Act.put, List.setIfInBounds_toArray, List.set_cons_zero, List.set_cons_succ]
  refine lt_val (v := (.slice (some ⟨g, o, none⟩) A c)) 2 (some 29) rfl (by kernel_rfl) (by kernel_rfl) (by kernel_rfl) (fun _ _ _ h => h) rfl rfl (fun w => ?_) ?_
  · (go_simp; try with_reducible rfl)
  try simp only [Act.put, List.setIfInBounds_toArray, List.set_cons_zero, List.set_cons_succ]
  refine lt_val (v := ?_) 4 (some 31) rfl (by kernel_rfl) (by kernel_rfl) (by kernel_rfl) (fun _ _ _ h => h) rfl rfl (fun w => ?_) ?_
  rotate_left
  · (go_simp; try with_reducible rfl)
  try simp only [Act.put, List.setIfInBounds_toArray, List.set_cons_zero, List.set_cons_succ]
  refine lt_val (v := ?_) 5 (some 32) rfl (by kernel_rfl) (by kernel_rfl) (by kernel_rfl) (fun _ _ _ h => h) rfl rfl (fun w => ?_) ?_
  rotate_left
  · (go_simp; try with_reducible rfl)
  try simp only [Act.put, List.setIfInBounds_toArray, List.set_cons_zero, List.set_cons_succ]
  refine lt_val (v := (.slice (some ⟨g, o + A, none⟩) 4 (c - A))) 6 (some 33) rfl (by kernel_rfl) (by kernel_rfl) (by kernel_rfl) (fun _ _ _ h => h) rfl rfl (fun w => ?_) ?_
  · (go_simp; try with_reducible rfl)
  try simp only [Act.put, List.setIfInBounds_toArray, List.set_cons_zero, List.set_cons_succ]
  refine lt_val (v := (.pointer (some ⟨g, o + A, none⟩))) 7 (some 34) rfl (by kernel_rfl) (by kernel_rfl) (by kernel_rfl) (fun _ _ _ h => h) rfl rfl (fun w => ?_) ?_
  · have hat : ∀ W, (Instr.arrayAt 100 (.slice (some ⟨g, o + A, none⟩) 4 (c - A))).run Tryz.prog W = .ok (.pointer (some ⟨g, o + A, none⟩)) W := fun W => run_arrayAt (w := W) 100 _ 4 _ 4 (c - A) Tryz.underlying100 (by omega); (go_simp; try with_reducible rfl)
  try simp only [Act.put, List.setIfInBounds_toArray, List.set_cons_zero, List.set_cons_succ]
  refine lt_read (v := (.agg (yC 4 SH))) 8 (some 35) rfl (by kernel_rfl) (by kernel_rfl) (by kernel_rfl) (by kernel_rfl) (fun _ _ _ h => h) rfl rfl (fun w hSw => ?_) hHeld ?_
  · skip; exact (exec_load_m w 100 (.tmp 34) rfl g (o + A) rfl (yL 4 SH) _ (by rw [← HS4.out]; exact (hSw.sub A 4 (by have := HA.out; omega)).rg) Tryz.underlying100 rfl (by rw [yL_len]; exact s4InfoV))
  try simp only [Act.put, List.setIfInBounds_toArray, List.set_cons_zero, List.set_cons_succ]
  refine lt_one 3 rfl (by kernel_rfl) rfl (fun K hK => ?_)
  go_simp
  refine (HSU.out _ c C3 (by have := HA.out; omega) HA.out.2.2).mono ?_
  rintro e w4 ⟨rfl, k4⟩
  go_wp2_with fail
  refine hK.out _ _ (fun _ h => h.chg k4 (by simp)) ?_
  replace hHeld := hHeld.chg k4 (by simp)
  have C4 := C3.trans1 k4
  have BA4 := BA3.chg k4 (by simp)
  clear C3 BA3 k4
  clear hK K
  try simp only [Act.put, List.setIfInBounds_toArray, List.set_cons_zero, List.set_cons_succ]
  refine lt_val (v := (.bool false)) 9 (some 36) rfl (by kernel_rfl) (by kernel_rfl) (by kernel_rfl) (fun _ _ _ h => h) rfl rfl (fun w => ?_) ?_
  · (go_simp; rw [eqnW_self])
  try simp only [Act.put, List.setIfInBounds_toArray, List.set_cons_zero, List.set_cons_succ]
  refine lt_done (by kernel_rfl) ?_ _
  go_wp2_with (first
    | (refine store_w BR rfl 190 _ _ #[.slice (some ⟨g, o, none⟩) A c, .int .i64 10, .string ⟨#[]⟩, .int .i64 0] rfl rfl rfl rdrInfo rfl (by simp [Value.oneCell']) ?_; intro w6 BR6 k6)
    | (with_reducible refine alloc_w rfl 190 rfl (.agg #[.slice none 0 0, .int .i64 0, .string ⟨#[]⟩, .int .i64 0]) zeroRdr #[.slice none 0 0, .int .i64 0, .string ⟨#[]⟩, .int .i64 0] rfl ?_; intro r w5 hr BR k5))
  have R6 : Rd w6 r (.slice (some ⟨g, o, none⟩) A c) ((10 : Nat) : Int) ⟨#[]⟩ 0 := BR6
  have HR : Hid (w.heap.size ≤ r ∧ ¬ g = r ∧ ¬ ab = r) := by have := HGL.out; have := C4.size; have := BA4.lt; exact ⟨by omega, by omega, by omega⟩
  have C6 := (C4.trans1 k5).new k6 HR.out.1
  have BA6 := (BA4.chg k5 (by simp)).chg k6 (by simp; exact HR.out.2.2)
  have B6 := (HB.out.chg C6 (by simp)).lo (show A ≤ n by have := HA.out; omega)
  clear BR BR6 k5 k6 hr C4 BA4 hHeld
  refine (HMs.out w6 r R6 B6 HR.out.2.1).mono ?_
  rintro e w7 ⟨rfl, k7⟩
  have C7 := C6.new k7 HR.out.1
  have BA7 := BA6.chg k7 (by simp; exact HR.out.2.2)
  clear R6 B6 C6 BA6 k7
  go_wp2_with (first
    | (refine store_w BA7 rfl 35 _ _ (msC M) rfl rfl rfl (by rw [msC_size]; exact msInfoV) (by rw [msC_size, msC_size]) (ms_oneC _ HM.out.1 HM.out.2) ?_; intro w13 BA13 k13))
  exact bodyPost_ret (results_cell_row Tryz.results63 _ _ ab 35 (msC M) (0, 0) _ rfl BA13 Tryz.underlying35 rfl (by rw [msC_size]; exact msInfoV)) rfl ⟨rfl, C7.new k13 HAB.out⟩
end Go.Proofs.YtgfeopingompdaaGreatDoor
