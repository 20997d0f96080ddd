/- wire: a frame's head is read. -/
import Derived.Test.YtgfeopingompdaaGreatDoorMwB
import Derived.Test.YtgfeopingompdaaGreatDoorW1
import Derived.Test.YtgfeopingompdaaGreatDoorSeL
import Derived.Laws.Strings
set_option linter.unusedVariables false
set_option linter.unusedSimpArgs false
set_option linter.unnecessarySimpa false
namespace Go.Proofs.YtgfeopingompdaaGreatDoor
open Go.RowKit

theorem Chg.cellW {w w' : World} {l : List Nat} (h : Chg w w' l) (g o : Nat) (hg : g < w.heap.size) (hl : ¬ g ∈ l) : w'.cell? ⟨g, o, none⟩ = w.cell? ⟨g, o, none⟩ := by unfold World.cell?; rw [h.block g hg hl]
def sFrame : ByteArray := ⟨#[102, 114, 97, 109, 101]⟩
def mgN : Nat → Nat := fun j => if j = 0 then 82 else if j = 1 then 73 else if j = 2 then 77 else 69
theorem zeroRdr : (Tryz.prog.info? 190).bind (·.zero) = some (.agg #[.slice none 0 0, .int .i64 0, .string ⟨#[]⟩, .int .i64 0]) := by kernel_rfl
theorem rdrInfo : (Tryz.prog.info? 190).map (·.size) = some 4 := by kernel_rfl
set_option maxHeartbeats 8000000 in
set_option maxRecDepth 100000 in
theorem readHead_ok (g o n c : Nat) (F : Nat → Nat) (K L : Nat) (hn : 10 ≤ n) (hc : n ≤ c) (hc2 : c ≤ 9223372036854775807) (w : World) (hB : Bs w g o n F) (hm : ∀ i, i < 4 → F i = mgN i) (hv : F 4 = 1) (hK : F 5 = K ∧ 1 ≤ K ∧ K ≤ 6) (hL : nm F 6 4 = L ∧ L ≤ 1065189) :
    Calls Tryz.prog 70 #[.slice (some ⟨g, o, none⟩) n c] w fun e w' => e = .returned (.tuple #[.int .i64 (K : Int), .int .i64 (((14 + L : Nat)) : Int)]) ∧ Chg w w' [] := by
  have HA : Hid (10 ≤ n ∧ n ≤ c ∧ c ≤ 9223372036854775807) := ⟨hn, hc, hc2⟩
  have HB : Hid (Bs w g o n F) := hB
  have HM : Hid (∀ i, i < 4 → F i = mgN i) := hm
  have HGL : Hid (g < w.heap.size) := hB.lt
  have HT : Hid (∀ (w' : World) (r : Nat) (b : Int) (s : ByteArray) (i : Nat), i < 4 → Rd w' r (.slice (some ⟨g, o, none⟩) n c) (i : Int) s b → Calls Tryz.prog 95 #[.pointer (some ⟨r, 0, none⟩), .int .i64 1] w' fun e w'' => e = .returned (.slice (some ⟨g, o + i, none⟩) 1 (c - i)) ∧ Rd w'' r (.slice (some ⟨g, o, none⟩) n c) ((i : Int) + ((1 : Nat) : Int)) s b ∧ Chg w' w'' [r]) :=
    fun w' r b s i hi h => take_ok r n c g o i 1 b s (by omega) hc (by omega) hc2 w' h
  have HN4 : Hid (∀ w' r b s, Rd w' r (.slice (some ⟨g, o, none⟩) n c) ((4 : Nat) : Int) s b → Bs w' g o n F → ¬ g = r → Calls Tryz.prog 96 #[.pointer (some ⟨r, 0, none⟩), .int .i64 1] w' fun e w'' => e = .returned (.int .u32 1) ∧ Rd w'' r (.slice (some ⟨g, o, none⟩) n c) ((5 : Nat) : Int) s b ∧ Chg w' w'' [r]) :=
    fun w' r b s h1 h2 h3 => (number_ok r n c g o 4 1 F b s (by omega) (by omega) hc (by omega) hc2 w' h1 h2 h3).mono fun e w'' ⟨h4, h5, h6⟩ => ⟨by rw [h4]; simp [nm, hv], h5, h6⟩
  have HN5 : Hid (∀ w' r b s, Rd w' r (.slice (some ⟨g, o, none⟩) n c) ((5 : Nat) : Int) s b → Bs w' g o n F → ¬ g = r → Calls Tryz.prog 96 #[.pointer (some ⟨r, 0, none⟩), .int .i64 1] w' fun e w'' => e = .returned (.int .u32 (K : Int)) ∧ Rd w'' r (.slice (some ⟨g, o, none⟩) n c) ((6 : Nat) : Int) s b ∧ Chg w' w'' [r]) :=
    fun w' r b s h1 h2 h3 => (number_ok r n c g o 5 1 F b s (by omega) (by omega) hc (by omega) hc2 w' h1 h2 h3).mono fun e w'' ⟨h4, h5, h6⟩ => ⟨by rw [h4]; simp [nm, hK.1], h5, h6⟩
  have HN6 : Hid (∀ w' r b s, Rd w' r (.slice (some ⟨g, o, none⟩) n c) ((6 : Nat) : Int) s b → Bs w' g o n F → ¬ g = r → Calls Tryz.prog 96 #[.pointer (some ⟨r, 0, none⟩), .int .i64 4] w' fun e w'' => e = .returned (.int .u32 (L : Int)) ∧ Rd w'' r (.slice (some ⟨g, o, none⟩) n c) ((10 : Nat) : Int) s b ∧ Chg w' w'' [r]) :=
    fun w' r b s h1 h2 h3 => (number_ok r n c g o 6 4 F b s (by omega) (by omega) hc (by omega) hc2 w' h1 h2 h3).mono fun e w'' ⟨h4, h5, h6⟩ => ⟨by rw [h4, hL.1], h5, h6⟩
  have HKL : Hid ((1 ≤ K ∧ K ≤ 6) ∧ L ≤ 1065189) := ⟨hK.2, hL.2⟩
  clear hn hc hc2 hB hm hv hK hL
  go_enter Tryz.func70, Tryz.ntmps70
  go_wp2_with (first
    | (refine store_w BR rfl 190 _ _ #[.slice (some ⟨g, o, none⟩) n c, .int .i64 0, .string sFrame, .int .i64 (n : Int)] rfl rfl rfl rdrInfo rfl (by simp [Value.oneCell']) ?_; intro w2 BR2 k2)
    | (with_reducible refine alloc_w rfl 190 rfl (.agg #[.slice none 0 0, .int .i64 0, .string ⟨#[]⟩, .int .i64 0]) zeroRdr #[.slice none 0 0, .int .i64 0, .string ⟨#[]⟩, .int .i64 0] rfl ?_; intro r w1 hr BR k1))
  have R2 : Rd w2 r (.slice (some ⟨g, o, none⟩) n c) ((0 : Nat) : Int) sFrame (n : Int) := BR2
  have HR : Hid (w.heap.size ≤ r ∧ ¬ g = r) := ⟨hr, by have := HGL.out; omega⟩
  have C2 : Chg w w2 [] := k1.new k2 hr
  clear BR BR2 k1 k2 hr
  go_loopw [12] (fun t wr => ∃ i : Nat, i ≤ 4 ∧ t = .int .i64 (i : Int) ∧ Rd wr r (.slice (some ⟨g, o, none⟩) n c) (i : Int) sFrame (n : Int) ∧ Chg w wr []) (fun t _ => (4 - intOf t).toNat)
  case atStart => exact ⟨0, by omega, rfl, R2, C2⟩
  case round =>
    clear R2 C2
    obtain ⟨i, hi, rfl, R, C⟩ := hrel
    by_cases h8 : i < 4
    · have hI : (i : Int) < 4 := by omega
      have e1 : IntKind.i64.wrap ((i : Int) + 1) = (i : Int) + 1 := by rw [IntKind.wrap_i64]; omega
      have HI : Hid (i < 4) := h8
      have hF := HM.out i h8
      have HFI : Hid (w.cell? ⟨g, o + i, none⟩ = some (.int .u8 ((mgN i : Nat) : Int))) := by
        have q := HB.out.cell i (by have := HA.out; omega)
        rw [hF] at q
        exact q
      clear hi h8 hF
      go_wp2_with fail
      refine lt_begin (fun w' => w'.cell? ⟨g, o + i, none⟩ = some (.int .u8 ((mgN i : Nat) : Int))) (fun _ => false) (by kernel_rfl) ?_
      have hHeld : wr.drew.cell? ⟨g, o + i, none⟩ = some (.int .u8 ((mgN i : Nat) : Int)) := (C.drew.cellW g _ HGL.out (by simp)).trans HFI.out
      have R3 : Rd wr.drew r (.slice (some ⟨g, o, none⟩) n c) (i : Int) sFrame (n : Int) := Blk.drew R
      have C3 := C.drew
      obtain ⟨z, hz⟩ : ∃ z, z = wr.drew := ⟨_, rfl⟩
      rw [← hz] at hHeld R3 C3 ⊢
      clear hz R C
      refine lt_val (v := ?_) 3 (some 18) rfl (by kernel_rfl) (by kernel_rfl) (by kernel_rfl) (fun _ _ _ h => h) rfl rfl (fun w => ?_) ?_
      rotate_left
      · (go_simp; try with_reducible rfl)
      try simp only [Act.put, List.setIfInBounds_toArray, List.set_cons_zero, List.set_cons_succ]
      refine lt_val (v := (.int .u8 ((mgN i : Nat) : Int))) 4 (some 19) rfl (by kernel_rfl) (by kernel_rfl) (by kernel_rfl) (fun _ _ _ h => h) rfl rfl (fun w => ?_) ?_
      · (have h4 : i = 0 ∨ i = 1 ∨ i = 2 ∨ i = 3 := (by have := HI.out; omega); rcases h4 with rfl | rfl | rfl | rfl <;> (go_simp; try rfl))
      try simp only [Act.put, List.setIfInBounds_toArray, List.set_cons_zero, List.set_cons_succ]
      refine lt_one 0 rfl (by kernel_rfl) rfl (fun K hK => ?_)
      go_simp
      refine (HT.out _ r _ _ i HI.out R3).mono ?_
      rintro e w4 ⟨rfl, R4, k4⟩
      go_wp2_with fail
      refine hK.out _ _ (fun _ h => (k4.cellW g _ (by have := HGL.out; have := C3.size; omega) (by have := HR.out; simp; exact this.2)).trans h) ?_
      replace hHeld := (k4.cellW g _ (by have := HGL.out; have := C3.size; omega) (by have := HR.out; simp; exact this.2)).trans hHeld
      have C4 := C3.new k4 HR.out.1
      clear C3 R3 k4
      clear hK K
      try simp only [Act.put, List.setIfInBounds_toArray, List.set_cons_zero, List.set_cons_succ]
      refine lt_val (v := ?_) 1 (some 16) rfl (by kernel_rfl) (by kernel_rfl) (by kernel_rfl) (fun _ _ _ h => h) rfl rfl (fun w => ?_) ?_
      rotate_left
      · (go_simp; try with_reducible rfl)
      try simp only [Act.put, List.setIfInBounds_toArray, List.set_cons_zero, List.set_cons_succ]
      refine lt_read (v := ?_) 2 (some 17) rfl (by kernel_rfl) (by kernel_rfl) (by kernel_rfl) (by kernel_rfl) (fun _ _ _ h => h) rfl rfl (fun w hSw => ?_) hHeld ?_
      rotate_left
      · have hSw' := hSw; (go_simp; try with_reducible rfl)
      try simp only [Act.put, List.setIfInBounds_toArray, List.set_cons_zero, List.set_cons_succ]
      refine lt_val (v := (.bool false)) 5 (some 20) rfl (by kernel_rfl) (by kernel_rfl) (by kernel_rfl) (fun _ _ _ h => h) rfl rfl (fun w => ?_) ?_
      · (go_simp; try with_reducible rfl)
      try simp only [Act.put, List.setIfInBounds_toArray, List.set_cons_zero, List.set_cons_succ]
      refine lt_done (by kernel_rfl) ?_ _
      go_wp2_with fail
      exact ⟨⟨i + 1, by have := HI.out; omega, by go_num, R4, C4⟩, by have := HI.out; simp [intOf]; omega⟩
    · have hI : ¬ (i : Int) < 4 := by omega
      obtain rfl : i = 4 := by omega
      have hk : IntKind.i64.wrap (K : Int) = (K : Int) := by have := HKL.out; rw [IntKind.wrap_i64]; omega
      have hd : decide (1 ≤ (K : Int) ∧ (K : Int) ≤ 6) = true := by have := HKL.out; exact decide_eq_true ⟨by omega, by omega⟩
      have hl : ¬ (1065189 : Int) < (L : Int) := by have := HKL.out; omega
      have hl1 : IntKind.i64.wrap (L : Int) = (L : Int) := by have := HKL.out; rw [IntKind.wrap_i64]; omega
      have hl2 : IntKind.i64.wrap (10 + (L : Int)) = 10 + (L : Int) := by have := HKL.out; rw [IntKind.wrap_i64]; omega
      have hl3 : IntKind.i64.wrap (10 + (L : Int) + 4) = 10 + (L : Int) + 4 := by have := HKL.out; rw [IntKind.wrap_i64]; omega
      clear hi h8
      have B := HB.out.chg C (by simp)
      go_wp2_with fail
      refine (HN4.out wr r _ _ R B HR.out.2).mono ?_
      rintro e w4 ⟨rfl, R4, k4⟩
      have B4 := B.chg k4 (by simp; exact HR.out.2)
      have C4 := C.new k4 HR.out.1
      clear R B C k4
      go_wp2_with fail
      refine (HN5.out w4 r _ _ R4 B4 HR.out.2).mono ?_
      rintro e w5 ⟨rfl, R5, k5⟩
      have B5 := B4.chg k5 (by simp; exact HR.out.2)
      have C5 := C4.new k5 HR.out.1
      clear R4 B4 C4 k5
      go_wp2_with fail
      refine (isKind_s (K : Int) w5).mono ?_
      rintro e w6 ⟨rfl, rfl⟩
      rw [hd]
      go_wp2_with fail
      refine (HN6.out w6 r _ _ R5 B5 HR.out.2).mono ?_
      rintro e w7 ⟨rfl, R7, k7⟩
      have C7 := C5.new k7 HR.out.1
      clear R5 B5 C5 k7
      go_wp2_with fail
      go_ret2
      exact ⟨by have e : (10 + (L : Int) + 4) = ((14 + L : Nat) : Int) := (by omega); simp [e], C7⟩
end Go.Proofs.YtgfeopingompdaaGreatDoor
