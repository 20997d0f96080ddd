/- wire: a frame's head, or its first fault. -/
import Derived.Test.YtgjclegpnbjlkaaGreatDoorMwR
import Derived.Test.YtgjclegpnbjlkaaGreatDoorMwD
set_option linter.unusedVariables false
set_option linter.unusedSimpArgs false
set_option linter.unnecessarySimpa false
namespace Go.Proofs.YtgjclegpnbjlkaaGreatDoor
open Go.RowKit

def sMagic : ByteArray := ⟨#[109, 97, 103, 105, 99]⟩
def sVersion : ByteArray := ⟨#[118, 101, 114, 115, 105, 111, 110]⟩
def sKindH : ByteArray := ⟨#[107, 105, 110, 100]⟩
def sLength : ByteArray := ⟨#[108, 101, 110, 103, 116, 104]⟩
/-- What readHead answers. -/
def HdQ (w : World) (n : Nat) (F : Nat → Nat) (e : Ending) (w' : World) : Prop :=
  (∃ i, i < 4 ∧ (∀ j, j < i → F j = mgN j) ∧ ((n = i ∧ Gu w.heap.size sFrame (n : Int) 3 e w') ∨ (i < n ∧ F i ≠ mgN i ∧ Gu w.heap.size sMagic (i : Int) 101 e w'))) ∨
  ((∀ j, j < 4 → F j = mgN j) ∧ ((n = 4 ∧ Gu w.heap.size sFrame (n : Int) 3 e w') ∨ (5 ≤ n ∧ F 4 ≠ 1 ∧ Gu w.heap.size sVersion 4 102 e w') ∨ (F 4 = 1 ∧
    ((n = 5 ∧ Gu w.heap.size sFrame (n : Int) 3 e w') ∨ (6 ≤ n ∧ ¬ (1 ≤ F 5 ∧ F 5 ≤ 6) ∧ Gu w.heap.size sKindH 5 152 e w') ∨ ((1 ≤ F 5 ∧ F 5 ≤ 6) ∧
      ((6 ≤ n ∧ n < 10 ∧ Gu w.heap.size sFrame (n : Int) 3 e w') ∨ (10 ≤ n ∧ 1065189 < nm F 6 4 ∧ Gu w.heap.size sLength 6 10 e w') ∨ (10 ≤ n ∧ nm F 6 4 ≤ 1065189 ∧ e = .returned (.tuple #[.int .i64 ((F 5 : Nat) : Int), .int .i64 (((14 + nm F 6 4 : Nat)) : Int)]))))))))
set_option maxHeartbeats 8000000 in
set_option maxRecDepth 100000 in
theorem readHead_s (g o n c : Nat) (F : Nat → Nat) (hc : n ≤ c) (hc2 : c ≤ 9223372036854775807) (w : World) (hB : Bs w g o n F) :
    Calls Tryz.prog 67 #[.slice (some ⟨g, o, none⟩) n c] w fun e w' => HdQ w n F e w' ∧ Chg w w' [] := by
  have HA : Hid (n ≤ c ∧ c ≤ 9223372036854775807) := ⟨hc, hc2⟩
  have HB : Hid (Bs w g o n F) := hB
  have HGL : Hid (g < w.heap.size) := hB.lt
  have HT : Hid (∀ (w' : World) (r : Nat) (b : Int) (s : ByteArray) (i : Nat), i < n → Rd w' r (.slice (some ⟨g, o, none⟩) n c) (i : Int) s b → Calls Tryz.prog 90 #[.pointer (some ⟨r, 0, none⟩), .int .i64 1] w' fun e w'' => e = .returned (.slice (some ⟨g, o + i, none⟩) 1 (c - i)) ∧ Rd w'' r (.slice (some ⟨g, o, none⟩) n c) ((i : Int) + ((1 : Nat) : Int)) s b ∧ Chg w' w'' [r]) :=
    fun w' r b s i hi h => take_ok r n c g o i 1 b s (by omega) hc (by omega) hc2 w' h
  have HTG : Hid (∀ (w' : World) (r : Nat) (b : Int) (s : ByteArray) (i : Nat), i = n → Rd w' r (.slice (some ⟨g, o, none⟩) n c) (i : Int) s b → Calls Tryz.prog 90 #[.pointer (some ⟨r, 0, none⟩), .int .i64 1] w' fun e w'' => Gu w'.heap.size s b 3 e w'' ∧ Chg w' w'' []) :=
    fun w' r b s i hi h => take_gu r n c 1 _ i b s (by omega) (by omega) (by omega) (by omega) w' h
  have HNO : Hid (∀ (w' : World) (r : Nat) (b : Int) (s : ByteArray) (a k : Nat), k ≤ 4 → 0 < k → a + k ≤ n → Rd w' r (.slice (some ⟨g, o, none⟩) n c) (a : Int) s b → Bs w' g o n F → ¬ g = r → Calls Tryz.prog 91 #[.pointer (some ⟨r, 0, none⟩), .int .i64 (k : Int)] w' fun e w'' => e = .returned (.int .u32 ((nm F a k : Nat) : Int)) ∧ Rd w'' r (.slice (some ⟨g, o, none⟩) n c) ((a + k : Nat) : Int) s b ∧ Chg w' w'' [r]) :=
    fun w' r b s a k hk4 hk0 hk h1 h2 h3 => number_ok r n c g o a k F b s hk4 hk hc (by omega) hc2 w' h1 h2 h3
  have HNG : Hid (∀ (w' : World) (r : Nat) (b : Int) (s : ByteArray) (a k : Nat), k ≤ 4 → n < a + k → a ≤ n → Rd w' r (.slice (some ⟨g, o, none⟩) n c) (a : Int) s b → Calls Tryz.prog 91 #[.pointer (some ⟨r, 0, none⟩), .int .i64 (k : Int)] w' fun e w'' => Gu w'.heap.size s b 3 e w'' ∧ Chg w' w'' []) :=
    fun w' r b s a k hk4 hk ha h1 => number_gu r n c k _ a b s hk (by omega) ha (by omega) w' h1
  clear hc hc2 hB
  go_enter Tryz.func67, Tryz.ntmps67
  go_wp2_with (first
    | (refine store_w BR rfl 186 _ _ #[.slice (some ⟨g, o, none⟩) n c, .int .i64 0, .string sFrame, .int .i64 (n : Int)] rfl rfl rfl rdrInfo rfl (by simp [Value.oneCell']) ?_; intro w2 BR2 k2)
    | (with_reducible refine alloc_w rfl 186 rfl (.agg #[.slice none 0 0, .int .i64 0, .string ⟨#[]⟩, .int .i64 0]) zeroRdr #[.slice none 0 0, .int .i64 0, .string ⟨#[]⟩, .int .i64 0] rfl ?_; intro r w1 hr BR k1))
  have R2 : Rd w2 r (.slice (some ⟨g, o, none⟩) n c) ((0 : Nat) : Int) sFrame (n : Int) := BR2
  have HR : Hid (w.heap.size ≤ r ∧ ¬ g = r) := ⟨hr, by have := HGL.out; omega⟩
  have C2 : Chg w w2 [] := k1.new k2 hr
  clear BR BR2 k1 k2 hr
  go_loopw [12] (fun t wr => ∃ i : Nat, i ≤ 4 ∧ i ≤ n ∧ t = .int .i64 (i : Int) ∧ Rd wr r (.slice (some ⟨g, o, none⟩) n c) (i : Int) sFrame (n : Int) ∧ Chg w wr [] ∧ ∀ j, j < i → F j = mgN j) (fun t _ => (4 - intOf t).toNat)
  case atStart => exact ⟨0, by omega, by omega, rfl, R2, C2, fun j hj => by omega⟩
  case round =>
    clear R2 C2
    obtain ⟨i, hi, hin, rfl, R, C, hj⟩ := hrel
    have HJ : Hid (∀ j, j < i → F j = mgN j) := hj
    have HIN : Hid (i ≤ n) := hin
    clear hj hin
    by_cases h8 : i < 4
    · have hI : (i : Int) < 4 := by omega
      have e1 : IntKind.i64.wrap ((i : Int) + 1) = (i : Int) + 1 := by rw [IntKind.wrap_i64]; omega
      have HI : Hid (i < 4) := h8
      by_cases hin2 : i = n
      · -- the bytes end here
        have C3 := C.drew
        have R3 : Rd wr.drew r (.slice (some ⟨g, o, none⟩) n c) (i : Int) sFrame (n : Int) := Blk.drew R
        have HQ : Hid (i = n) := hin2
        clear hi h8 hin2
        go_wp2_with fail
        refine lt_begin (fun w' => True) (fun _ => false) (by kernel_rfl) ?_
        obtain ⟨z, hz⟩ : ∃ z, z = wr.drew := ⟨_, rfl⟩
        rw [← hz] at R3 C3 ⊢
        clear hz R C
        have hHeld : True := trivial
        refine lt_val (v := ?_) 3 (some 18) rfl (by kernel_rfl) (by kernel_rfl) (by kernel_rfl) (fun _ _ _ h => h) rfl rfl (fun w => ?_) ?_
        rotate_left
        · (go_simp; try with_reducible rfl)
        try simp only [Act.put, List.setIfInBounds_toArray, List.set_cons_zero, List.set_cons_succ]
        refine lt_val (v := (.int .u8 ((mgN i : Nat) : Int))) 4 (some 19) rfl (by kernel_rfl) (by kernel_rfl) (by kernel_rfl) (fun _ _ _ h => h) rfl rfl (fun w => ?_) ?_
        · (have h4 : i = 0 ∨ i = 1 ∨ i = 2 ∨ i = 3 := (by have := HI.out; omega); rcases h4 with rfl | rfl | rfl | rfl <;> (go_simp; try rfl))
        try simp only [Act.put, List.setIfInBounds_toArray, List.set_cons_zero, List.set_cons_succ]
        refine lt_one 0 rfl (by kernel_rfl) rfl (fun K hK => ?_)
        go_simp
        refine (HTG.out _ r _ _ i HQ.out R3).mono ?_
        rintro e w5 ⟨⟨v5, rfl, hf⟩, k5⟩
        exact ⟨rfl, ⟨Or.inl ⟨i, HI.out, HJ.out, Or.inl ⟨HQ.out.symm, v5, rfl, hf.lw C3.size⟩⟩, C3.trans1 k5⟩⟩
      · have HQ : Hid (i < n) := by have := HIN.out; show i < n; omega
        have HFI : Hid (w.cell? ⟨g, o + i, none⟩ = some (.int .u8 ((F i : Nat) : Int))) := HB.out.cell i HQ.out
        obtain ⟨f, hf⟩ : ∃ f, F i = f := ⟨_, rfl⟩
        have HF : Hid (F i = f) := hf
        rw [hf] at HFI
        clear hi h8 hin2 hf
        go_wp2_with fail
        refine lt_begin (fun w' => w'.cell? ⟨g, o + i, none⟩ = some (.int .u8 ((f : Nat) : Int))) (fun _ => false) (by kernel_rfl) ?_
        have hHeld : wr.drew.cell? ⟨g, o + i, none⟩ = some (.int .u8 ((f : Nat) : Int)) := (C.drew.cellW g _ HGL.out (by simp)).trans HFI.out
        have R3 : Rd wr.drew r (.slice (some ⟨g, o, none⟩) n c) (i : Int) sFrame (n : Int) := Blk.drew R
        have C3 := C.drew
        obtain ⟨z, hz⟩ : ∃ z, z = wr.drew := ⟨_, rfl⟩
        rw [← hz] at hHeld R3 C3 ⊢
        clear hz R C
        obtain ⟨bv, hbv⟩ : ∃ bv : Bool, bv = !decide ((f : Int) = ((mgN i : Nat) : Int)) := ⟨_, rfl⟩
        have HBV : Hid (bv = !decide ((f : Int) = ((mgN i : Nat) : Int))) := hbv
        clear hbv
        refine lt_val (v := ?_) 3 (some 18) rfl (by kernel_rfl) (by kernel_rfl) (by kernel_rfl) (fun _ _ _ h => h) rfl rfl (fun w => ?_) ?_
        rotate_left
        · (go_simp; try with_reducible rfl)
        try simp only [Act.put, List.setIfInBounds_toArray, List.set_cons_zero, List.set_cons_succ]
        refine lt_val (v := (.int .u8 ((mgN i : Nat) : Int))) 4 (some 19) rfl (by kernel_rfl) (by kernel_rfl) (by kernel_rfl) (fun _ _ _ h => h) rfl rfl (fun w => ?_) ?_
        · (have h4 : i = 0 ∨ i = 1 ∨ i = 2 ∨ i = 3 := (by have := HI.out; omega); rcases h4 with rfl | rfl | rfl | rfl <;> (go_simp; try rfl))
        try simp only [Act.put, List.setIfInBounds_toArray, List.set_cons_zero, List.set_cons_succ]
        refine lt_one 0 rfl (by kernel_rfl) rfl (fun K hK => ?_)
        go_simp
        refine (HT.out _ r _ _ i HQ.out R3).mono ?_
        rintro e w4 ⟨rfl, R4, k4⟩
        go_wp2_with fail
        refine hK.out _ _ (fun _ h => (k4.cellW g _ (by have := HGL.out; have := C3.size; omega) (by have := HR.out; simp; exact this.2)).trans h) ?_
        replace hHeld := (k4.cellW g _ (by have := HGL.out; have := C3.size; omega) (by have := HR.out; simp; exact this.2)).trans hHeld
        have C4 := C3.new k4 HR.out.1
        clear C3 R3 k4
        clear hK K
        try simp only [Act.put, List.setIfInBounds_toArray, List.set_cons_zero, List.set_cons_succ]
        refine lt_val (v := ?_) 1 (some 16) rfl (by kernel_rfl) (by kernel_rfl) (by kernel_rfl) (fun _ _ _ h => h) rfl rfl (fun w => ?_) ?_
        rotate_left
        · (go_simp; try with_reducible rfl)
        try simp only [Act.put, List.setIfInBounds_toArray, List.set_cons_zero, List.set_cons_succ]
        refine lt_read (v := ?_) 2 (some 17) rfl (by kernel_rfl) (by kernel_rfl) (by kernel_rfl) (by kernel_rfl) (fun _ _ _ h => h) rfl rfl (fun w hSw => ?_) hHeld ?_
        rotate_left
        · have hSw' := hSw; (go_simp; try with_reducible rfl)
        try simp only [Act.put, List.setIfInBounds_toArray, List.set_cons_zero, List.set_cons_succ]
        refine lt_val (v := (.bool bv)) 5 (some 20) rfl (by kernel_rfl) (by kernel_rfl) (by kernel_rfl) (fun _ _ _ h => h) rfl rfl (fun w => ?_) ?_
        · (rw [HBV.out]; go_simp; try rfl)
        try simp only [Act.put, List.setIfInBounds_toArray, List.set_cons_zero, List.set_cons_succ]
        refine lt_done (by kernel_rfl) ?_ _
        by_cases hm : f = mgN i
        · obtain rfl : bv = false := by rw [HBV.out, hm]; simp
          go_wp2_with fail
          exact ⟨⟨i + 1, by have := HI.out; omega, HQ.out, by go_num, R4, C4, fun j hj => by
            by_cases h : j < i
            · exact HJ.out j h
            · rw [show j = i from by omega]; rw [HF.out]; exact hm⟩, by have := HI.out; simp [intOf]; omega⟩
        · obtain rfl : bv = true := by rw [HBV.out, decide_eq_false (by omega)]; rfl
          go_wp2_with fail
          refine (giveUp_s sMagic (i : Int) 101 _).mono ?_
          rintro e w5 ⟨⟨v5, rfl, hf⟩, k5⟩
          exact ⟨rfl, ⟨Or.inl ⟨i, HI.out, HJ.out, Or.inr ⟨HQ.out, by rw [HF.out]; exact hm, v5, rfl, hf.lw C4.size⟩⟩, C4.trans1 k5⟩⟩
    · have hI : ¬ (i : Int) < 4 := by omega
      obtain rfl : i = 4 := by omega
      clear hi h8
      have B := HB.out.chg C (by simp)
      by_cases n5 : n < 5
      · have HQ : Hid (n = 4) := by have := HIN.out; show n = 4; omega
        go_wp2_with fail
        refine (HNG.out wr r _ _ 4 1 (by decide) n5 HIN.out R).mono ?_
        rintro e w5 ⟨⟨v5, rfl, hf⟩, k5⟩
        exact ⟨rfl, ⟨Or.inr ⟨HJ.out, Or.inl ⟨HQ.out, v5, rfl, hf.lw C.size⟩⟩, C.trans1 k5⟩⟩
      have e4 : nm F 4 1 = F 4 := by simp [nm]
      have h5 := HNO.out wr r (n : Int) sFrame 4 1 (by decide) (by decide) (by omega) R B HR.out.2
      rw [e4] at h5
      have H5 : Hid (5 ≤ n) := by show 5 ≤ n; omega
      obtain ⟨f4, hf4⟩ : ∃ f, F 4 = f := ⟨_, rfl⟩
      have HF4 : Hid (F 4 = f4) := hf4
      rw [hf4] at h5
      clear n5 e4 hf4
      go_wp2_with fail
      refine h5.mono ?_
      rintro e w5 ⟨rfl, R5, k5⟩
      have C5 := C.new k5 HR.out.1
      have B5 := HB.out.chg C5 (by simp)
      clear h5 R B C k5
      by_cases hv : f4 = 1
      · subst hv
        by_cases n6 : n < 6
        · have HQ : Hid (n = 5) := by have := H5.out; show n = 5; omega
          go_wp2_with fail
          refine (HNG.out w5 r _ _ 5 1 (by decide) n6 H5.out R5).mono ?_
          rintro e w6 ⟨⟨v6, rfl, hf⟩, k6⟩
          exact ⟨rfl, ⟨Or.inr ⟨HJ.out, Or.inr (Or.inr ⟨HF4.out, Or.inl ⟨HQ.out, v6, rfl, hf.lw C5.size⟩⟩)⟩, C5.trans1 k6⟩⟩
        have e5 : nm F 5 1 = F 5 := by simp [nm]
        have h6 := HNO.out w5 r (n : Int) sFrame 5 1 (by decide) (by decide) (by omega) R5 B5 HR.out.2
        rw [e5] at h6
        have H6 : Hid (6 ≤ n) := by show 6 ≤ n; omega
        have b5 : F 5 < 256 := HB.out.bd 5 (by omega)
        obtain ⟨K, hK⟩ : ∃ K, F 5 = K := ⟨_, rfl⟩
        have HK : Hid (F 5 = K ∧ K < 256) := ⟨hK, by omega⟩
        have hk : IntKind.i64.wrap (K : Int) = (K : Int) := by rw [IntKind.wrap_i64]; omega
        rw [hK] at h6
        clear n6 e5 hK b5
        go_wp2_with fail
        refine h6.mono ?_
        rintro e w6 ⟨rfl, R6, k6⟩
        have C6 := C5.new k6 HR.out.1
        have B6 := HB.out.chg C6 (by simp)
        clear h6 R5 B5 C5 k6
        go_wp2_with fail
        refine (isKind_s (K : Int) w6).mono ?_
        rintro e w7 ⟨rfl, rfl⟩
        by_cases hkk : 1 ≤ K ∧ K ≤ 6
        · rw [show decide (1 ≤ (K : Int) ∧ (K : Int) ≤ 6) = true from decide_eq_true ⟨by omega, by omega⟩]
          have HKK : Hid (1 ≤ F 5 ∧ F 5 ≤ 6) := by rw [HK.out.1]; exact hkk
          by_cases n10 : n < 10
          · have HQ : Hid (n < 10) := n10
            clear hkk n10
            go_wp2_with fail
            refine (HNG.out w7 r _ _ 6 4 (by decide) HQ.out H6.out R6).mono ?_
            rintro e w8 ⟨⟨v8, rfl, hf⟩, k8⟩
            exact ⟨rfl, ⟨Or.inr ⟨HJ.out, Or.inr (Or.inr ⟨HF4.out, Or.inr (Or.inr ⟨HKK.out, Or.inl ⟨H6.out, HQ.out, v8, rfl, hf.lw C6.size⟩⟩)⟩)⟩, C6.trans1 k8⟩⟩
          have h8 := HNO.out w7 r (n : Int) sFrame 6 4 (by decide) (by decide) (by omega) R6 B6 HR.out.2
          have H10 : Hid (10 ≤ n) := by show 10 ≤ n; omega
          have b6 : nm F 6 4 < 4294967296 := nm_lt F 6 4 (fun j hj => HB.out.bd _ (by omega))
          obtain ⟨L, hL⟩ : ∃ L, nm F 6 4 = L := ⟨_, rfl⟩
          have HL : Hid (nm F 6 4 = L) := hL
          rw [hL] at h8 b6
          clear n10 hkk hL
          go_wp2_with fail
          refine h8.mono ?_
          rintro e w8 ⟨rfl, R8, k8⟩
          have C8 := C6.new k8 HR.out.1
          clear h8 R6 B6 C6 k8
          by_cases hl : L ≤ 1065189
          · have HLL : Hid (L ≤ 1065189) := hl
            have hl0 : ¬ (1065189 : Int) < (L : Int) := by omega
            have hl1 : IntKind.i64.wrap (L : Int) = (L : Int) := by rw [IntKind.wrap_i64]; omega
            have hl2 : IntKind.i64.wrap (10 + (L : Int)) = 10 + (L : Int) := by rw [IntKind.wrap_i64]; omega
            have hl3 : IntKind.i64.wrap (10 + (L : Int) + 4) = 10 + (L : Int) + 4 := by rw [IntKind.wrap_i64]; omega
            clear hl b6
            go_wp2_with fail
            go_ret2
            exact ⟨Or.inr ⟨HJ.out, Or.inr (Or.inr ⟨HF4.out, Or.inr (Or.inr ⟨HKK.out, Or.inr (Or.inr ⟨H10.out, by rw [HL.out]; exact HLL.out, by rw [HL.out, HK.out.1]; have e : (10 + (L : Int) + 4) = ((14 + L : Nat) : Int) := (by omega); simp [e]⟩)⟩)⟩)⟩, C8⟩
          · have HLL : Hid (1065189 < L) := by show 1065189 < L; omega
            have hl0 : (1065189 : Int) < (L : Int) := by omega
            clear hl b6
            go_wp2_with fail
            refine (giveUp_s sLength 6 10 _).mono ?_
            rintro e w9 ⟨⟨v9, rfl, hf⟩, k9⟩
            exact ⟨rfl, ⟨Or.inr ⟨HJ.out, Or.inr (Or.inr ⟨HF4.out, Or.inr (Or.inr ⟨HKK.out, Or.inr (Or.inl ⟨H10.out, by rw [HL.out]; exact HLL.out, v9, rfl, hf.lw C8.size⟩)⟩)⟩)⟩, C8.trans1 k9⟩⟩
        · rw [show decide (1 ≤ (K : Int) ∧ (K : Int) ≤ 6) = false from decide_eq_false (fun h => hkk ⟨by omega, by omega⟩)]
          have HKK : Hid (¬ (1 ≤ F 5 ∧ F 5 ≤ 6)) := by rw [HK.out.1]; exact hkk
          clear hkk
          go_wp2_with fail
          refine (giveUp_s sKindH 5 152 _).mono ?_
          rintro e w9 ⟨⟨v9, rfl, hf⟩, k9⟩
          exact ⟨rfl, ⟨Or.inr ⟨HJ.out, Or.inr (Or.inr ⟨HF4.out, Or.inr (Or.inl ⟨H6.out, HKK.out, v9, rfl, hf.lw C6.size⟩)⟩)⟩, C6.trans1 k9⟩⟩
      · have hv2 : ¬ (f4 : Int) = 1 := by omega
        have HV : Hid (F 4 ≠ 1) := by rw [HF4.out]; exact hv
        clear hv
        go_wp2_with fail
        refine (giveUp_s sVersion 4 102 _).mono ?_
        rintro e w9 ⟨⟨v9, rfl, hf⟩, k9⟩
        exact ⟨rfl, ⟨Or.inr ⟨HJ.out, Or.inr (Or.inl ⟨H5.out, HV.out, v9, rfl, hf.lw C5.size⟩)⟩, C5.trans1 k9⟩⟩
end Go.Proofs.YtgjclegpnbjlkaaGreatDoor
