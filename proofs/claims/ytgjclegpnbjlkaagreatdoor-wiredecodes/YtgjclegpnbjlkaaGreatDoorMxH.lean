/- Joined: W36, W30. -/
import Derived.Test.YtgjclegpnbjlkaaGreatDoorMwR
import Derived.Test.YtgjclegpnbjlkaaGreatDoorMwD
import Derived.Test.YtgjclegpnbjlkaaGreatDoorMwS
import Derived.Test.YtgjclegpnbjlkaaGreatDoorMwZ
import Derived.Lib.ItoaLen
set_option linter.all false
namespace Go.Proofs.YtgjclegpnbjlkaaGreatDoor
set_option maxHeartbeats 8000000
set_option maxRecDepth 100000
open Go.RowKit
def sMagic : ByteArray := ⟨#[109, 97, 103, 105, 99]⟩
def sVersion : ByteArray := ⟨#[118, 101, 114, 115, 105, 111, 110]⟩
def sKindH : ByteArray := ⟨#[107, 105, 110, 100]⟩
def sLength : ByteArray := ⟨#[108, 101, 110, 103, 116, 104]⟩
def HdQ (w : World) (n : Nat) (F : Nat → Nat) (e : Ending) (w' : World) : Prop :=
 (∃ i, i < 4 ∧ (∀ j, j < i → F j = mgN j) ∧ ((n = i ∧ Gu w.heap.size sFrame (n : Int) 3 e w') ∨ (i < n ∧ F i ≠ mgN i ∧ Gu w.heap.size sMagic (i : Int) 101 e w'))) ∨
 ((∀ j, j < 4 → F j = mgN j) ∧ ((n = 4 ∧ Gu w.heap.size sFrame (n : Int) 3 e w') ∨ (5 ≤ n ∧ F 4 ≠ 1 ∧ Gu w.heap.size sVersion 4 102 e w') ∨ (F 4 = 1 ∧
   ((n = 5 ∧ Gu w.heap.size sFrame (n : Int) 3 e w') ∨ (6 ≤ n ∧ ¬ (1 ≤ F 5 ∧ F 5 ≤ 6) ∧ Gu w.heap.size sKindH 5 152 e w') ∨ ((1 ≤ F 5 ∧ F 5 ≤ 6) ∧
     ((6 ≤ n ∧ n < 10 ∧ Gu w.heap.size sFrame (n : Int) 3 e w') ∨ (10 ≤ n ∧ 1065189 < nm F 6 4 ∧ Gu w.heap.size sLength 6 10 e w') ∨ (10 ≤ n ∧ nm F 6 4 ≤ 1065189 ∧ e = .returned (.tuple #[.int .i64 ((F 5 : Nat) : Int), .int .i64 (((14 + nm F 6 4 : Nat)) : Int)]))))))))
theorem readHead_s (g o n c : Nat) (F : Nat → Nat) (hc : n ≤ c) (hc2 : c ≤ 9223372036854775807) (w : World) (hB : Bs w g o n F) :
   Calls Tryz.prog 67 #[.slice (some ⟨g, o, none⟩) n c] w fun e w' => HdQ w n F e w' ∧ Chg w w' [] := by
 have HA : Hid (n ≤ c ∧ c ≤ 9223372036854775807) := ⟨hc, hc2⟩
 have HB : Hid (Bs w g o n F) := hB
 have HGL : Hid (g < w.heap.size) := hB.lt
 have HT : Hid (∀ (w' : World) (r : Nat) (b : Int) (s : ByteArray) (i : Nat), i < n → Rd w' r (.slice (some ⟨g, o, none⟩) n c) (i : Int) s b → Calls Tryz.prog 90 #[.pointer (some ⟨r, 0, none⟩), .int .i64 1] w' fun e w'' => e = .returned (.slice (some ⟨g, o + i, none⟩) 1 (c - i)) ∧ Rd w'' r (.slice (some ⟨g, o, none⟩) n c) ((i : Int) + ((1 : Nat) : Int)) s b ∧ Chg w' w'' [r]) :=
   fun w' r b s i hi h => take_ok r n c g o i 1 b s (by omega) hc (by omega) hc2 w' h
 have HTG : Hid (∀ (w' : World) (r : Nat) (b : Int) (s : ByteArray) (i : Nat), i = n → Rd w' r (.slice (some ⟨g, o, none⟩) n c) (i : Int) s b → Calls Tryz.prog 90 #[.pointer (some ⟨r, 0, none⟩), .int .i64 1] w' fun e w'' => Gu w'.heap.size s b 3 e w'' ∧ Chg w' w'' []) :=
   fun w' r b s i hi h => take_gu r n c 1 _ i b s (by omega) (by omega) (by omega) (by omega) w' h
 have HNO : Hid (∀ (w' : World) (r : Nat) (b : Int) (s : ByteArray) (a k : Nat), k ≤ 4 → 0 < k → a + k ≤ n → Rd w' r (.slice (some ⟨g, o, none⟩) n c) (a : Int) s b → Bs w' g o n F → ¬ g = r → Calls Tryz.prog 91 #[.pointer (some ⟨r, 0, none⟩), .int .i64 (k : Int)] w' fun e w'' => e = .returned (.int .u32 ((nm F a k : Nat) : Int)) ∧ Rd w'' r (.slice (some ⟨g, o, none⟩) n c) ((a + k : Nat) : Int) s b ∧ Chg w' w'' [r]) :=
   fun w' r b s a k hk4 hk0 hk h1 h2 h3 => number_ok r n c g o a k F b s hk4 hk hc (by omega) hc2 w' h1 h2 h3
 have HNG : Hid (∀ (w' : World) (r : Nat) (b : Int) (s : ByteArray) (a k : Nat), k ≤ 4 → n < a + k → a ≤ n → Rd w' r (.slice (some ⟨g, o, none⟩) n c) (a : Int) s b → Calls Tryz.prog 91 #[.pointer (some ⟨r, 0, none⟩), .int .i64 (k : Int)] w' fun e w'' => Gu w'.heap.size s b 3 e w'' ∧ Chg w' w'' []) :=
   fun w' r b s a k hk4 hk ha h1 => number_gu r n c k _ a b s hk (by omega) ha (by omega) w' h1
 clear hc hc2 hB
 go_enter Tryz.func67, Tryz.ntmps67
 go_wp2_with (first
   | (refine store_w BR rfl 186 _ _ #[.slice (some ⟨g, o, none⟩) n c, .int .i64 0, .string sFrame, .int .i64 (n : Int)] rfl rfl rfl rdrInfo rfl (by simp [Value.oneCell']) ?_; intro w2 BR2 k2)
   | (with_reducible refine alloc_w rfl 186 rfl (.agg #[.slice none 0 0, .int .i64 0, .string ⟨#[]⟩, .int .i64 0]) zeroRdr #[.slice none 0 0, .int .i64 0, .string ⟨#[]⟩, .int .i64 0] rfl ?_; intro r w1 hr BR k1))
 have R2 : Rd w2 r (.slice (some ⟨g, o, none⟩) n c) ((0 : Nat) : Int) sFrame (n : Int) := BR2
 have HR : Hid (w.heap.size ≤ r ∧ ¬ g = r) := ⟨hr, by have := HGL.out; omega⟩
 have C2 : Chg w w2 [] := k1.new k2 hr
 clear BR BR2 k1 k2 hr
 go_loopw [12] (fun t wr => ∃ i : Nat, i ≤ 4 ∧ i ≤ n ∧ t = .int .i64 (i : Int) ∧ Rd wr r (.slice (some ⟨g, o, none⟩) n c) (i : Int) sFrame (n : Int) ∧ Chg w wr [] ∧ ∀ j, j < i → F j = mgN j) (fun t _ => (4 - intOf t).toNat)
 case atStart => exact ⟨0, by omega, by omega, rfl, R2, C2, fun j hj => by omega⟩
 case round =>
   clear R2 C2
   obtain ⟨i, hi, hin, rfl, R, C, hj⟩ := hrel
   have HJ : Hid (∀ j, j < i → F j = mgN j) := hj
   have HIN : Hid (i ≤ n) := hin
   clear hj hin
   by_cases h8 : i < 4
   · have hI : (i : Int) < 4 := by omega
     have e1 : IntKind.i64.wrap ((i : Int) + 1) = (i : Int) + 1 := by rw [IntKind.wrap_i64]; omega
     have HI : Hid (i < 4) := h8
     by_cases hin2 : i = n
     · -- the bytes end here
       have C3 := C.drew
       have R3 : Rd wr.drew r (.slice (some ⟨g, o, none⟩) n c) (i : Int) sFrame (n : Int) := Blk.drew R
       have HQ : Hid (i = n) := hin2
       clear hi h8 hin2
       go_wp2_with fail
       refine lt_begin (fun w' => True) (fun _ => false) (by kernel_rfl) ?_
       obtain ⟨z, hz⟩ : ∃ z, z = wr.drew := ⟨_, rfl⟩
       rw [← hz] at R3 C3 ⊢
       clear hz R C
       have hHeld : True := trivial
       refine lv ?_ 3 (some 18) rfl (fun w => ?_) ?_; rotate_left; (· (go_simp; try with_reducible rfl)); try simp only [Act.put, sA]
       refine lv (.int .u8 ((mgN i : Nat) : Int)) 4 (some 19) rfl (fun w => ?_) ?_; (· (have h4 : i = 0 ∨ i = 1 ∨ i = 2 ∨ i = 3 := (by have := HI.out; omega); rcases h4 with rfl | rfl | rfl | rfl <;> (go_simp; try rfl))); try simp only [Act.put, sA]
       refine lt_one 0 rfl (by kernel_rfl) rfl (fun K hK => ?_)
       go_simp
       refine (HTG.out _ r _ _ i HQ.out R3).mono ?_
       rintro e w5 ⟨⟨v5, rfl, hf⟩, k5⟩
       exact ⟨rfl, ⟨Or.inl ⟨i, HI.out, HJ.out, Or.inl ⟨HQ.out.symm, v5, rfl, hf.lw C3.size⟩⟩, C3.trans1 k5⟩⟩
     · have HQ : Hid (i < n) := by have := HIN.out; show i < n; omega
       have HFI : Hid (w.cell? ⟨g, o + i, none⟩ = some (.int .u8 ((F i : Nat) : Int))) := HB.out.cell i HQ.out
       obtain ⟨f, hf⟩ : ∃ f, F i = f := ⟨_, rfl⟩
       have HF : Hid (F i = f) := hf
       rw [hf] at HFI
       clear hi h8 hin2 hf
       go_wp2_with fail
       refine lt_begin (fun w' => w'.cell? ⟨g, o + i, none⟩ = some (.int .u8 ((f : Nat) : Int))) (fun _ => false) (by kernel_rfl) ?_
       have hHeld : wr.drew.cell? ⟨g, o + i, none⟩ = some (.int .u8 ((f : Nat) : Int)) := (C.drew.cellW g _ HGL.out (by simp)).trans HFI.out
       have R3 : Rd wr.drew r (.slice (some ⟨g, o, none⟩) n c) (i : Int) sFrame (n : Int) := Blk.drew R
       have C3 := C.drew
       obtain ⟨z, hz⟩ : ∃ z, z = wr.drew := ⟨_, rfl⟩
       rw [← hz] at hHeld R3 C3 ⊢
       clear hz R C
       obtain ⟨bv, hbv⟩ : ∃ bv : Bool, bv = !decide ((f : Int) = ((mgN i : Nat) : Int)) := ⟨_, rfl⟩
       have HBV : Hid (bv = !decide ((f : Int) = ((mgN i : Nat) : Int))) := hbv
       clear hbv
       refine lv ?_ 3 (some 18) rfl (fun w => ?_) ?_; rotate_left; (· (go_simp; try with_reducible rfl)); try simp only [Act.put, sA]
       refine lv (.int .u8 ((mgN i : Nat) : Int)) 4 (some 19) rfl (fun w => ?_) ?_; (· (have h4 : i = 0 ∨ i = 1 ∨ i = 2 ∨ i = 3 := (by have := HI.out; omega); rcases h4 with rfl | rfl | rfl | rfl <;> (go_simp; try rfl))); try simp only [Act.put, sA]
       refine lt_one 0 rfl (by kernel_rfl) rfl (fun K hK => ?_)
       go_simp
       refine (HT.out _ r _ _ i HQ.out R3).mono ?_
       rintro e w4 ⟨rfl, R4, k4⟩
       go_wp2_with fail
       refine hK.out _ _ (fun _ h => (k4.cellW g _ (by have := HGL.out; have := C3.size; omega) (by have := HR.out; simp; exact this.2)).trans h) ?_
       replace hHeld := (k4.cellW g _ (by have := HGL.out; have := C3.size; omega) (by have := HR.out; simp; exact this.2)).trans hHeld
       have C4 := C3.new k4 HR.out.1
       clear C3 R3 k4
       clear hK K
       try simp only [Act.put, sA]
       refine lv ?_ 1 (some 16) rfl (fun w => ?_) ?_; rotate_left; (· (go_simp; try with_reducible rfl)); try simp only [Act.put, sA]
       refine lr ?_ 2 (some 17) rfl (fun w hSw => ?_) hHeld ?_
       rotate_left
       · have hSw' := hSw; (go_simp; try with_reducible rfl)
       try simp only [Act.put, sA]
       refine lv (.bool bv) 5 (some 20) rfl (fun w => ?_) ?_; (· (rw [HBV.out]; go_simp; try rfl)); try simp only [Act.put, sA]
       refine lt_done (by kernel_rfl) ?_ _
       by_cases hm : f = mgN i
       · obtain rfl : bv = false := by rw [HBV.out, hm]; simp
         go_wp2_with fail
         exact ⟨⟨i + 1, by have := HI.out; omega, HQ.out, by go_num, R4, C4, fun j hj => by
           by_cases h : j < i
           · exact HJ.out j h
           · rw [show j = i from by omega]; rw [HF.out]; exact hm⟩, by have := HI.out; simp [intOf]; omega⟩
       · obtain rfl : bv = true := by rw [HBV.out, decide_eq_false (by omega)]; rfl
         go_wp2_with fail
         refine (giveUp_s sMagic (i : Int) 101 _).mono ?_
         rintro e w5 ⟨⟨v5, rfl, hf⟩, k5⟩
         exact ⟨rfl, ⟨Or.inl ⟨i, HI.out, HJ.out, Or.inr ⟨HQ.out, by rw [HF.out]; exact hm, v5, rfl, hf.lw C4.size⟩⟩, C4.trans1 k5⟩⟩
   · have hI : ¬ (i : Int) < 4 := by omega
     obtain rfl : i = 4 := by omega
     clear hi h8
     have B := HB.out.chg C (by simp)
     by_cases n5 : n < 5
     · have HQ : Hid (n = 4) := by have := HIN.out; show n = 4; omega
       go_wp2_with fail
       refine (HNG.out wr r _ _ 4 1 (by decide) n5 HIN.out R).mono ?_
       rintro e w5 ⟨⟨v5, rfl, hf⟩, k5⟩
       exact ⟨rfl, ⟨Or.inr ⟨HJ.out, Or.inl ⟨HQ.out, v5, rfl, hf.lw C.size⟩⟩, C.trans1 k5⟩⟩
     have e4 : nm F 4 1 = F 4 := by simp [nm]
     have h5 := HNO.out wr r (n : Int) sFrame 4 1 (by decide) (by decide) (by omega) R B HR.out.2
     rw [e4] at h5
     have H5 : Hid (5 ≤ n) := by show 5 ≤ n; omega
     obtain ⟨f4, hf4⟩ : ∃ f, F 4 = f := ⟨_, rfl⟩
     have HF4 : Hid (F 4 = f4) := hf4
     rw [hf4] at h5
     clear n5 e4 hf4
     go_wp2_with fail
     refine h5.mono ?_
     rintro e w5 ⟨rfl, R5, k5⟩
     have C5 := C.new k5 HR.out.1
     have B5 := HB.out.chg C5 (by simp)
     clear h5 R B C k5
     by_cases hv : f4 = 1
     · subst hv
       by_cases n6 : n < 6
       · have HQ : Hid (n = 5) := by have := H5.out; show n = 5; omega
         go_wp2_with fail
         refine (HNG.out w5 r _ _ 5 1 (by decide) n6 H5.out R5).mono ?_
         rintro e w6 ⟨⟨v6, rfl, hf⟩, k6⟩
         exact ⟨rfl, ⟨Or.inr ⟨HJ.out, Or.inr (Or.inr ⟨HF4.out, Or.inl ⟨HQ.out, v6, rfl, hf.lw C5.size⟩⟩)⟩, C5.trans1 k6⟩⟩
       have e5 : nm F 5 1 = F 5 := by simp [nm]
       have h6 := HNO.out w5 r (n : Int) sFrame 5 1 (by decide) (by decide) (by omega) R5 B5 HR.out.2
       rw [e5] at h6
       have H6 : Hid (6 ≤ n) := by show 6 ≤ n; omega
       have b5 : F 5 < 256 := HB.out.bd 5 (by omega)
       obtain ⟨K, hK⟩ : ∃ K, F 5 = K := ⟨_, rfl⟩
       have HK : Hid (F 5 = K ∧ K < 256) := ⟨hK, by omega⟩
       have hk : IntKind.i64.wrap (K : Int) = (K : Int) := by rw [IntKind.wrap_i64]; omega
       rw [hK] at h6
       clear n6 e5 hK b5
       go_wp2_with fail
       refine h6.mono ?_
       rintro e w6 ⟨rfl, R6, k6⟩
       have C6 := C5.new k6 HR.out.1
       have B6 := HB.out.chg C6 (by simp)
       clear h6 R5 B5 C5 k6
       go_wp2_with fail
       refine (isKind_s (K : Int) w6).mono ?_
       rintro e w7 ⟨rfl, rfl⟩
       by_cases hkk : 1 ≤ K ∧ K ≤ 6
       · rw [show decide (1 ≤ (K : Int) ∧ (K : Int) ≤ 6) = true from decide_eq_true ⟨by omega, by omega⟩]
         have HKK : Hid (1 ≤ F 5 ∧ F 5 ≤ 6) := by rw [HK.out.1]; exact hkk
         by_cases n10 : n < 10
         · have HQ : Hid (n < 10) := n10
           clear hkk n10
           go_wp2_with fail
           refine (HNG.out w7 r _ _ 6 4 (by decide) HQ.out H6.out R6).mono ?_
           rintro e w8 ⟨⟨v8, rfl, hf⟩, k8⟩
           exact ⟨rfl, ⟨Or.inr ⟨HJ.out, Or.inr (Or.inr ⟨HF4.out, Or.inr (Or.inr ⟨HKK.out, Or.inl ⟨H6.out, HQ.out, v8, rfl, hf.lw C6.size⟩⟩)⟩)⟩, C6.trans1 k8⟩⟩
         have h8 := HNO.out w7 r (n : Int) sFrame 6 4 (by decide) (by decide) (by omega) R6 B6 HR.out.2
         have H10 : Hid (10 ≤ n) := by show 10 ≤ n; omega
         have b6 : nm F 6 4 < 4294967296 := nm_lt F 6 4 (fun j hj => HB.out.bd _ (by omega))
         obtain ⟨L, hL⟩ : ∃ L, nm F 6 4 = L := ⟨_, rfl⟩
         have HL : Hid (nm F 6 4 = L) := hL
         rw [hL] at h8 b6
         clear n10 hkk hL
         go_wp2_with fail
         refine h8.mono ?_
         rintro e w8 ⟨rfl, R8, k8⟩
         have C8 := C6.new k8 HR.out.1
         clear h8 R6 B6 C6 k8
         by_cases hl : L ≤ 1065189
         · have HLL : Hid (L ≤ 1065189) := hl
           have hl0 : ¬ (1065189 : Int) < (L : Int) := by omega
           have hl1 : IntKind.i64.wrap (L : Int) = (L : Int) := by rw [IntKind.wrap_i64]; omega
           have hl2 : IntKind.i64.wrap (10 + (L : Int)) = 10 + (L : Int) := by rw [IntKind.wrap_i64]; omega
           have hl3 : IntKind.i64.wrap (10 + (L : Int) + 4) = 10 + (L : Int) + 4 := by rw [IntKind.wrap_i64]; omega
           clear hl b6
           go_wp2_with fail
           go_ret2
           exact ⟨Or.inr ⟨HJ.out, Or.inr (Or.inr ⟨HF4.out, Or.inr (Or.inr ⟨HKK.out, Or.inr (Or.inr ⟨H10.out, by rw [HL.out]; exact HLL.out, by rw [HL.out, HK.out.1]; have e : (10 + (L : Int) + 4) = ((14 + L : Nat) : Int) := (by omega); simp [e]⟩)⟩)⟩)⟩, C8⟩
         · have HLL : Hid (1065189 < L) := by show 1065189 < L; omega
           have hl0 : (1065189 : Int) < (L : Int) := by omega
           clear hl b6
           go_wp2_with fail
           refine (giveUp_s sLength 6 10 _).mono ?_
           rintro e w9 ⟨⟨v9, rfl, hf⟩, k9⟩
           exact ⟨rfl, ⟨Or.inr ⟨HJ.out, Or.inr (Or.inr ⟨HF4.out, Or.inr (Or.inr ⟨HKK.out, Or.inr (Or.inl ⟨H10.out, by rw [HL.out]; exact HLL.out, v9, rfl, hf.lw C8.size⟩)⟩)⟩)⟩, C8.trans1 k9⟩⟩
       · rw [show decide (1 ≤ (K : Int) ∧ (K : Int) ≤ 6) = false from decide_eq_false (fun h => hkk ⟨by omega, by omega⟩)]
         have HKK : Hid (¬ (1 ≤ F 5 ∧ F 5 ≤ 6)) := by rw [HK.out.1]; exact hkk
         clear hkk
         go_wp2_with fail
         refine (giveUp_s sKindH 5 152 _).mono ?_
         rintro e w9 ⟨⟨v9, rfl, hf⟩, k9⟩
         exact ⟨rfl, ⟨Or.inr ⟨HJ.out, Or.inr (Or.inr ⟨HF4.out, Or.inr (Or.inl ⟨H6.out, HKK.out, v9, rfl, hf.lw C6.size⟩)⟩)⟩, C6.trans1 k9⟩⟩
     · have hv2 : ¬ (f4 : Int) = 1 := by omega
       have HV : Hid (F 4 ≠ 1) := by rw [HF4.out]; exact hv
       clear hv
       go_wp2_with fail
       refine (giveUp_s sVersion 4 102 _).mono ?_
       rintro e w9 ⟨⟨v9, rfl, hf⟩, k9⟩
       exact ⟨rfl, ⟨Or.inr ⟨HJ.out, Or.inr (Or.inl ⟨H5.out, HV.out, v9, rfl, hf.lw C5.size⟩)⟩, C5.trans1 k9⟩⟩
end Go.Proofs.YtgjclegpnbjlkaaGreatDoor

set_option linter.all false
namespace Go.Proofs.YtgjclegpnbjlkaaGreatDoor
set_option maxHeartbeats 8000000
set_option maxRecDepth 100000
open Go.RowKit
def ItG (w0 : World) (y : Nat) (t : ByteArray) : Prop := t.size ≤ 1000 ∧ ∀ W, Chg w0 W [] → Calls Tryz.prog 84 #[.int .i64 (y : Int)] W fun e w' => e = .returned (.string t) ∧ Chg W w' []
def dgS (a : Nat) : ByteArray := ⟨(Lib.decDigits a).toArray⟩
theorem dgS_1 (a : Nat) (ha : a < 10) : dgS a = strOfNums [48 + (a : Int)] := by
 unfold dgS
 rw [Lib.decDigits_one ha]
 have e : (48 + (a : Int)).toNat = 48 + a := by omega
 unfold strOfNums
 simp only [List.map_cons, List.map_nil, e]
theorem dgS_more (a : Nat) (ha : ¬ a < 10) : dgS a = dgS (a / 10) ++ strOfNums [48 + ((a % 10 : Nat) : Int)] := by
 unfold dgS
 rw [show Lib.decDigits a = Lib.decDigits (a / 10) ++ [UInt8.ofNat (48 + a % 10)] from by rw [Lib.decDigits, dif_neg ha]]
 have e : (48 + ((a % 10 : Nat) : Int)).toNat = 48 + a % 10 := by omega
 unfold strOfNums
 simp only [List.map_cons, List.map_nil, e]
 apply ByteArray.ext
 simp only [ByteArray.data_append]
 apply Array.ext'
 simp
theorem dgS_len (a : Nat) (ha : a ≤ 9223372036854775807) : (dgS a).size ≤ 21 := by
 have := Lib.itoa_length_le (a : Int) (by omega) (by omega)
 rw [Lib.itoa_nonneg] at this
 simpa [dgS, ByteArray.size] using this
def Pw (w : World) : Prop := ∃ g t f, Tryz.prog.globalNamed "internal/strconv.uint64pow10" = some g ∧ w.heap[g]? = some (.cells (Lib.pow10Tab.map fun z => Value.int .u64 z).toArray t f)
theorem Pw.chg {w w' : World} (h : Pw w) (k : Chg w w' []) : Pw w' := by
 obtain ⟨g, t, f, h1, h2⟩ := h
 have hg : g < w.heap.size := (Array.getElem?_eq_some_iff.1 h2).1
 exact ⟨g, t, f, h1, by rw [k.block g hg (by simp)]; exact h2⟩
theorem Pw.tab {w : World} (h : Pw w) : Lib.TabIs Tryz.prog w "internal/strconv.uint64pow10" .u64 Lib.pow10Tab := by
 obtain ⟨g, t, f, h1, h2⟩ := h
 unfold Lib.TabIs World.var?
 rw [h1]
 simp [h2]
theorem itg {w : World} (h : Pw w) (a : Nat) (ha : a ≤ 9223372036854775807) : ItG w a (dgS a) :=
 ⟨Nat.le_trans (dgS_len a ha) (by decide), fun W k => Itoa_g a ha W (h.chg k).tab⟩
theorem ErrnoError_g (w0 : World) (y : Nat) (t : ByteArray) (ht : ItG w0 y t) (w : World) (hw : Chg w0 w []) : Calls Tryz.prog 41 #[.int .i64 (y : Int)] w fun e w' => e = .returned (.string (sRime ++ t)) ∧ Chg w w' [] := by
 have hz : ¬ 9223372036854775807 < 5 + t.size := by have := ht.1; omega
 have HT : Hid (ItG w0 y t) := ht
 have HW : Hid (Chg w0 w []) := hw
 clear ht hw
 go_enter Tryz.func41, Tryz.ntmps41
 go_wp2_with fail
 refine (HT.out.2 w HW.out).mono ?_
 rintro e w' ⟨rfl, k⟩
 go_wp2_with fail
 go_ret
 exact ⟨rfl, k⟩
theorem dec_more (a : Nat) (ha : ¬ a < 10) (hb : a ≤ 9223372036854775807) (w : World) (hr : ∀ W, Calls Tryz.prog 40 #[.int .i64 ((a / 10 : Nat) : Int)] W fun e w' => e = .returned (.string (dgS (a / 10))) ∧ Chg W w' []) :
   Calls Tryz.prog 40 #[.int .i64 (a : Int)] w fun e w' => e = .returned (.string (dgS a)) ∧ Chg w w' [] := by
 rw [dgS_more a ha]
 have l1 : ¬ (a : Int) < 10 := by omega
 obtain ⟨r, hr0⟩ : ∃ r, a % 10 = r := ⟨_, rfl⟩
 obtain ⟨q, hq0⟩ : ∃ q, a / 10 = q := ⟨_, rfl⟩
 have hs := dgS_len (a / 10) (by omega)
 rw [hq0] at hr hs ⊢
 rw [hr0]
 have hr10 : r < 10 := by omega
 have e0 : Int.tmod (a : Int) 10 = (r : Int) := by rw [Int.tmod_eq_emod_of_nonneg (by omega)]; omega
 have e3 : Int.tdiv (a : Int) 10 = (q : Int) := by rw [Int.tdiv_eq_ediv_of_nonneg (by omega)]; omega
 have e4 : IntKind.i64.wrap (q : Int) = (q : Int) := by rw [IntKind.wrap_i64]; omega
 have e1 : IntKind.i64.wrap (48 + (r : Int)) = 48 + (r : Int) := by rw [IntKind.wrap_i64]; omega
 have e2 : IntKind.u8.wrap (48 + (r : Int)) = 48 + (r : Int) := by rw [IntKind.wrap_u8']; omega
 have hcv : (convert 29 9 (.slice (some ⟨w.heap.size, 0, none⟩) 1 1)).run Tryz.prog (w.alloc (.cells #[.int .u8 (48 + (r : Int))] 5)) = .ok (.string (strOfNums [48 + (r : Int)])) (w.alloc (.cells #[.int .u8 (48 + (r : Int))] 5)) :=
   run_convert_bytes_arg _ 29 5 Tryz.underlying29 Tryz.underlying5 w.heap.size 0 1 1 [48 + (r : Int)] rfl (fun i hi => by
     obtain rfl : i = 0 := by omega
     simp [go_sem]) 9 Tryz.underlying9
 have k : Chg w (w.alloc (.cells #[.int .u8 (48 + (r : Int))] 5)) [] := (Chg.refl w []).alloc _
 have HR : Hid (∀ W, Calls Tryz.prog 40 #[.int .i64 (q : Int)] W fun e w' => e = .returned (.string (dgS q)) ∧ Chg W w' []) := hr
 obtain ⟨D, hD⟩ : ∃ D, dgS q = D := ⟨_, rfl⟩
 rw [hD] at HR hs ⊢
 obtain ⟨E, hE⟩ : ∃ E, strOfNums [48 + (r : Int)] = E := ⟨_, rfl⟩
 have s2 : E.size = 1 := by rw [← hE]; rfl
 rw [hE] at hcv ⊢
 have n1 : ¬ 9223372036854775807 < D.size + 1 := by omega
 clear ha hb hr0 hq0 hr hD hE hs hr10
 go_enter Tryz.func40, Tryz.ntmps40
 go_wp2_with fail
 refine (HR.out _).mono ?_
 rintro e w2 ⟨rfl, k2⟩
 go_wp2_with fail
 go_ret
 exact ⟨rfl, k.trans1 k2⟩
theorem dec_g : ∀ (N a : Nat), a ≤ N → a ≤ 9223372036854775807 → ∀ w, Calls Tryz.prog 40 #[.int .i64 (a : Int)] w fun e w' => e = .returned (.string (dgS a)) ∧ Chg w w' []
 | 0, a, h, _, w => by
   obtain rfl : a = 0 := by omega
   rw [dgS_1 0 (by decide)]
   exact dec_1 0 (by decide) w
 | N + 1, a, h, hb, w => by
   by_cases ha : a < 10
   · rw [dgS_1 a ha]
     exact dec_1 a ha w
   · exact dec_more a ha hb w fun W => dec_g N (a / 10) (by omega) (by omega) W
theorem FaultError_g (w0 : World) (g : Nat) (s d t : ByteArray) (a y : Nat) (hs : s.size ≤ 1000) (hd : ItG w0 a d) (ht : ItG w0 y t) (w : World) (hw : Chg w0 w []) (h : Blk w g #[.string s, .int .i64 (a : Int), .int .i64 (y : Int)] 109) : Calls Tryz.prog 39 #[.pointer (some ⟨g, 0, none⟩)] w fun e w' => e = .returned (.string (ftx s d t)) ∧ Chg w w' [] := by
 have HD : Hid (ItG w0 a d) := hd
 have HW : Hid (Chg w0 w []) := hw
 have HE : Hid (∀ W, Chg w0 W [] → Calls Tryz.prog 41 #[.int .i64 (y : Int)] W fun e w' => e = .returned (.string (sRime ++ t)) ∧ Chg W w' []) := fun W k => ErrnoError_g w0 y t ht W k
 have hx : (sRime ++ t).size ≤ 1005 := by have := ht.1; rw [ByteArray.size_append]; show 5 + t.size ≤ 1005; omega
 have hd1 := hd.1
 obtain ⟨x, hX⟩ : ∃ x, sRime ++ t = x := ⟨_, rfl⟩
 have HF : Hid (ftx s d t = s ++ sAt ++ d ++ sColon ++ x) := by show _ = _; rw [← hX]; rfl
 rw [hX] at HE hx
 have n1 : ¬ 9223372036854775807 < s.size + 4 := by omega
 have n2 : ¬ 9223372036854775807 < s.size + 4 + d.size := by omega
 have n3 : ¬ 9223372036854775807 < s.size + 4 + d.size + 2 := by omega
 have n4 : ¬ 9223372036854775807 < s.size + 4 + d.size + 2 + x.size := by omega
 have HB : Hid (Blk w g #[.string s, .int .i64 (a : Int), .int .i64 (y : Int)] 109) := h
 rw [HF.out]
 clear hs hd ht hX hx hd1 h hw
 go_enter Tryz.func39, Tryz.ntmps39
 go_wp2_with fail
 refine lt_begin (fun w' => Blk w' g #[.string s, .int .i64 (a : Int), .int .i64 (y : Int)] 109) (fun _ => false) (by kernel_rfl) ?_
 have hHeld := HB.out.drew
 have C1 := (Chg.refl w []).drew
 obtain ⟨z, hz⟩ : ∃ z, z = w.drew := ⟨_, rfl⟩
 rw [← hz] at hHeld C1 ⊢
 clear hz
 refine lv ?_ 0 (some 5) rfl (fun w => ?_) ?_; rotate_left; (· (go_simp; try with_reducible rfl)); try simp only [Act.put, sA]
 refine lv ?_ 1 (some 6) rfl (fun w => ?_) ?_; rotate_left; (· (go_simp; try with_reducible rfl)); try simp only [Act.put, sA]
 refine lv ?_ 2 (some 7) rfl (fun w => ?_) ?_; rotate_left; (· (go_simp; try with_reducible rfl)); try simp only [Act.put, sA]
 refine lr (.string s) 3 (some 8) rfl (fun w hSw => ?_) hHeld ?_
 · have q0 := hSw.cell 0; have q1 := hSw.cell 1; have q2 := hSw.cell 2; (go_simp; try with_reducible rfl)
 try simp only [Act.put, sA]
 refine lv (.string (s ++ sAt)) 4 (some 9) rfl (fun w => ?_) ?_; (· (go_simp; try rfl)); try simp only [Act.put, sA]
 refine lv ?_ 5 (some 10) rfl (fun w => ?_) ?_; rotate_left; (· (go_simp; try with_reducible rfl)); try simp only [Act.put, sA]
 refine lv ?_ 6 (some 11) rfl (fun w => ?_) ?_; rotate_left; (· (go_simp; try with_reducible rfl)); try simp only [Act.put, sA]
 refine lv ?_ 7 (some 12) rfl (fun w => ?_) ?_; rotate_left; (· (go_simp; try with_reducible rfl)); try simp only [Act.put, sA]
 refine lr (.int .i64 (a : Int)) 8 (some 13) rfl (fun w hSw => ?_) hHeld ?_
 · have q0 := hSw.cell 0; have q1 := hSw.cell 1; have q2 := hSw.cell 2; (go_simp; try with_reducible rfl)
 try simp only [Act.put, sA]
 refine lv ?_ 12 (some 17) rfl (fun w => ?_) ?_; rotate_left; (· (go_simp; try with_reducible rfl)); try simp only [Act.put, sA]
 refine lv ?_ 13 (some 18) rfl (fun w => ?_) ?_; rotate_left; (· (go_simp; try with_reducible rfl)); try simp only [Act.put, sA]
 refine lv ?_ 14 (some 19) rfl (fun w => ?_) ?_; rotate_left; (· (go_simp; try with_reducible rfl)); try simp only [Act.put, sA]
 refine lr (.int .i64 (y : Int)) 15 (some 20) rfl (fun w hSw => ?_) hHeld ?_
 · have q0 := hSw.cell 0; have q1 := hSw.cell 1; have q2 := hSw.cell 2; (go_simp; try with_reducible rfl)
 try simp only [Act.put, sA]
 refine lt_one 9 rfl (by kernel_rfl) rfl (fun K hK => ?_)
 go_simp
 refine (HD.out.2 _ (HW.out.trans1 C1)).mono ?_
 rintro e w2 ⟨rfl, k2⟩
 go_wp2_with fail
 refine hK.out _ _ (fun _ h => h.chg k2 (by simp)) ?_
 replace hHeld := hHeld.chg k2 (by simp)
 replace C1 := C1.trans1 k2
 clear k2
 clear hK K
 try simp only [Act.put, sA]
 refine lv (.string (s ++ sAt ++ d)) 10 (some 15) rfl (fun w => ?_) ?_; (· (have hq : sAt.size = 4 := rfl; have hq2 : sColon.size = 2 := rfl; go_simp; first | done | omega | (rw [if_neg (by omega)]; rfl) | rfl)); try simp only [Act.put, sA]
 refine lv (.string (s ++ sAt ++ d ++ sColon)) 11 (some 16) rfl (fun w => ?_) ?_; (· (have hq : sAt.size = 4 := rfl; have hq2 : sColon.size = 2 := rfl; go_simp; first | done | omega | (rw [if_neg (by omega)]; rfl) | rfl)); try simp only [Act.put, sA]
 refine lt_one 16 rfl (by kernel_rfl) rfl (fun K hK => ?_)
 go_simp
 refine (HE.out _ (HW.out.trans1 C1)).mono ?_
 rintro e w3 ⟨rfl, k3⟩
 go_wp2_with fail
 refine hK.out _ _ (fun _ h => h.chg k3 (by simp)) ?_
 replace C1 := C1.trans1 k3
 clear k3
 clear hK K
 try simp only [Act.put, sA]
 refine lv (.string (s ++ sAt ++ d ++ sColon ++ x)) 17 (some 22) rfl (fun w => ?_) ?_; (· (have hq : sAt.size = 4 := rfl; have hq2 : sColon.size = 2 := rfl; go_simp; first | done | omega | (rw [if_neg (by omega)]; rfl) | rfl)); try simp only [Act.put, sA]
 refine lv ?_ 18 (some 2) rfl (fun w => ?_) ?_; rotate_left; (· (go_simp; try with_reducible rfl)); try simp only [Act.put, sA]
 refine lt_done (by kernel_rfl) ?_ _
 go_wp2_with fail
 go_ret
 exact ⟨rfl, C1⟩
theorem fault_g (w0 : World) (g : Nat) (s d t : ByteArray) (a y : Nat) (hs : s.size ≤ 1000) (hd : ItG w0 a d) (ht : ItG w0 y t) (hdc : ∀ W, Calls Tryz.prog 40 #[.int .i64 (a : Int)] W fun e w' => e = .returned (.string d) ∧ Chg W w' [])
   (hn : ∀ W, Calls Tryz.prog 35 #[.agg (ftC s a y)] W fun e w' => e = .returned (.bool false) ∧ Chg W w' []) (w : World) (hw : Chg w0 w []) (h : Blk w g (ftC s a y) 109) :
   Calls Tryz.prog 11 #[.iface 106 (.pointer (some ⟨g, 0, none⟩)), .agg (ftC s a y)] w fun e w' => e = .returned (.bool true) ∧ Chg w w' [] := by
 have HN : Hid (∀ W, Calls Tryz.prog 35 #[.agg (ftC s a y)] W fun e w' => e = .returned (.bool false) ∧ Chg W w' []) := hn
 have HDC : Hid (∀ W, Calls Tryz.prog 40 #[.int .i64 (a : Int)] W fun e w' => e = .returned (.string d) ∧ Chg W w' []) := hdc
 have HIS : Hid (∀ W, Blk W g (ftC s a y) 109 → Calls Tryz.prog 38 #[.iface 106 (.pointer (some ⟨g, 0, none⟩)), .iface 33 (.int .i64 (y : Int))] W fun e w' => e = .returned (.bool true) ∧ w' = W) := fun W h => Is_s g s (a : Int) (y : Int) W h
 have HW : Hid (Chg w0 w []) := hw
 have HFE : Hid (∀ W, Chg w0 W [] → Blk W g (ftC s a y) 109 → Calls Tryz.prog 39 #[.pointer (some ⟨g, 0, none⟩)] W fun e w' => e = .returned (.string (ftx s d t)) ∧ Chg W w' []) := fun W k h => FaultError_g w0 g s d t a y hs hd ht W k h
 have HEE : Hid (∀ W, Chg w0 W [] → Calls Tryz.prog 41 #[.int .i64 (y : Int)] W fun e w' => e = .returned (.string (sRime ++ t)) ∧ Chg W w' []) := fun W k => ErrnoError_g w0 y t ht W k
 have hx : (sRime ++ t).size ≤ 1005 := by have := ht.1; rw [ByteArray.size_append]; show 5 + t.size ≤ 1005; omega
 have hd1 := hd.1
 obtain ⟨x, hX⟩ : ∃ x, sRime ++ t = x := ⟨_, rfl⟩
 have HF0 : ftx s d t = s ++ sAt ++ d ++ sColon ++ x := by rw [← hX]; rfl
 obtain ⟨T, hT⟩ : ∃ T, ftx s d t = T := ⟨_, rfl⟩
 rw [hT] at HFE HF0
 have HF : Hid (T = s ++ sAt ++ d ++ sColon ++ x) := HF0
 rw [hX] at HEE hx
 have n1 : ¬ 9223372036854775807 < s.size + 4 := by omega
 have n2 : ¬ 9223372036854775807 < s.size + 4 + d.size := by omega
 have n3 : ¬ 9223372036854775807 < s.size + 4 + d.size + 2 := by omega
 have n4 : ¬ 9223372036854775807 < s.size + 4 + d.size + 2 + x.size := by omega
 have HB : Hid (Blk w g (ftC s a y) 109) := h
 have hta := flt_is (.pointer (some ⟨g, 0, none⟩))
 clear hs hd ht hX hx hd1 h hn hdc HF0 hT hw
 go_enter Tryz.func11, Tryz.ntmps11
 go_wp2_with (first
   | (refine wpList_load_row rfl 59 _ rfl bb rfl 59 _ (0, 0) _ BB Tryz.underlying59 rfl rFltInfo ?_)
   | (refine box_w rfl 59 _ rfl (ftC s a y) rfl ?_; intro bb w1 hbb BB k1))
 refine (HN.out w1).mono ?_
 rintro e w2 ⟨rfl, k2⟩
 have C2 := k1.trans1 k2
 have BB2 := BB.chg k2 (by simp)
 have BF2 := HB.out.chg C2 (by simp)
 clear k1 k2 BB hbb
 go_wp2_with fail
 refine lt_begin (fun w' => Blk w' g (ftC s a y) 109 ∧ Blk w' bb (ftC s a y) 59) (fun _ => false) (by kernel_rfl) ?_
 have hHeld : Blk w2.drew g (ftC s a y) 109 ∧ Blk w2.drew bb (ftC s a y) 59 := ⟨BF2.drew, BB2.drew⟩
 have C3 := C2.drew
 obtain ⟨z, hz⟩ : ∃ z, z = w2.drew := ⟨_, rfl⟩
 rw [← hz] at hHeld C3 ⊢
 clear hz C2 BB2 BF2
 refine lv ?_ 0 (some 22) rfl (fun w => ?_) ?_; rotate_left; (· (go_simp; try with_reducible rfl)); try simp only [Act.put, sA]
 refine lv ?_ 1 (some 23) rfl (fun w => ?_) ?_; rotate_left; (· (go_simp; try with_reducible rfl)); try simp only [Act.put, sA]
 refine lv ?_ 2 (some 24) rfl (fun w => ?_) ?_; rotate_left; (· (go_simp; try with_reducible rfl)); try simp only [Act.put, sA]
 refine lr (.string s) 3 (some 25) rfl (fun w hSw => ?_) hHeld ?_
 · have q0 := hSw.1.cell 0; have q1 := hSw.1.cell 1; have q2 := hSw.1.cell 2; have p0 := hSw.2.cell 0; have p1 := hSw.2.cell 1; have p2 := hSw.2.cell 2; simp only [ftC] at q0 q1 q2 p0 p1 p2; (go_simp; try with_reducible rfl)
 try simp only [Act.put, sA]
 refine lv ?_ 4 (some 26) rfl (fun w => ?_) ?_; rotate_left; (· (go_simp; try with_reducible rfl)); try simp only [Act.put, sA]
 refine lr (.string s) 5 (some 27) rfl (fun w hSw => ?_) hHeld ?_
 · have q0 := hSw.1.cell 0; have q1 := hSw.1.cell 1; have q2 := hSw.1.cell 2; have p0 := hSw.2.cell 0; have p1 := hSw.2.cell 1; have p2 := hSw.2.cell 2; simp only [ftC] at q0 q1 q2 p0 p1 p2; (go_simp; try with_reducible rfl)
 try simp only [Act.put, sA]
 refine lv (.bool true) 6 (some 28) rfl (fun w => ?_) ?_; (· (go_simp; try with_reducible rfl)); try simp only [Act.put, sA]
 refine lv (.bool true) 7 (some 29) rfl (fun w => ?_) ?_; (· (go_simp; try with_reducible rfl)); try simp only [Act.put, sA]
 refine lv ?_ 8 (some 30) rfl (fun w => ?_) ?_; rotate_left; (· (go_simp; try with_reducible rfl)); try simp only [Act.put, sA]
 refine lv ?_ 9 (some 31) rfl (fun w => ?_) ?_; rotate_left; (· (go_simp; try with_reducible rfl)); try simp only [Act.put, sA]
 refine lv ?_ 10 (some 32) rfl (fun w => ?_) ?_; rotate_left; (· (go_simp; try with_reducible rfl)); try simp only [Act.put, sA]
 refine lr (.int .i64 (a : Int)) 11 (some 33) rfl (fun w hSw => ?_) hHeld ?_
 · have q0 := hSw.1.cell 0; have q1 := hSw.1.cell 1; have q2 := hSw.1.cell 2; have p0 := hSw.2.cell 0; have p1 := hSw.2.cell 1; have p2 := hSw.2.cell 2; simp only [ftC] at q0 q1 q2 p0 p1 p2; (go_simp; try with_reducible rfl)
 try simp only [Act.put, sA]
 refine lv ?_ 12 (some 34) rfl (fun w => ?_) ?_; rotate_left; (· (go_simp; try with_reducible rfl)); try simp only [Act.put, sA]
 refine lr (.int .i64 (a : Int)) 13 (some 35) rfl (fun w hSw => ?_) hHeld ?_
 · have q0 := hSw.1.cell 0; have q1 := hSw.1.cell 1; have q2 := hSw.1.cell 2; have p0 := hSw.2.cell 0; have p1 := hSw.2.cell 1; have p2 := hSw.2.cell 2; simp only [ftC] at q0 q1 q2 p0 p1 p2; (go_simp; try with_reducible rfl)
 try simp only [Act.put, sA]
 refine lv (.bool true) 14 (some 36) rfl (fun w => ?_) ?_; (· (go_simp; try with_reducible rfl)); try simp only [Act.put, sA]
 refine lv (.bool true) 15 (some 37) rfl (fun w => ?_) ?_; (· (go_simp; try with_reducible rfl)); try simp only [Act.put, sA]
 refine lv (.bool true) 16 (some 38) rfl (fun w => ?_) ?_; (· (go_simp; try with_reducible rfl)); try simp only [Act.put, sA]
 refine lv ?_ 17 (some 39) rfl (fun w => ?_) ?_; rotate_left; (· (go_simp; try with_reducible rfl)); try simp only [Act.put, sA]
 refine lv ?_ 18 (some 40) rfl (fun w => ?_) ?_; rotate_left; (· (go_simp; try with_reducible rfl)); try simp only [Act.put, sA]
 refine lv ?_ 19 (some 41) rfl (fun w => ?_) ?_; rotate_left; (· (go_simp; try with_reducible rfl)); try simp only [Act.put, sA]
 refine lr (.int .i64 (y : Int)) 20 (some 42) rfl (fun w hSw => ?_) hHeld ?_
 · have q0 := hSw.1.cell 0; have q1 := hSw.1.cell 1; have q2 := hSw.1.cell 2; have p0 := hSw.2.cell 0; have p1 := hSw.2.cell 1; have p2 := hSw.2.cell 2; simp only [ftC] at q0 q1 q2 p0 p1 p2; (go_simp; try with_reducible rfl)
 try simp only [Act.put, sA]
 refine lv ?_ 21 (some 43) rfl (fun w => ?_) ?_; rotate_left; (· (go_simp; try with_reducible rfl)); try simp only [Act.put, sA]
 refine lr (.int .i64 (y : Int)) 22 (some 44) rfl (fun w hSw => ?_) hHeld ?_
 · have q0 := hSw.1.cell 0; have q1 := hSw.1.cell 1; have q2 := hSw.1.cell 2; have p0 := hSw.2.cell 0; have p1 := hSw.2.cell 1; have p2 := hSw.2.cell 2; simp only [ftC] at q0 q1 q2 p0 p1 p2; (go_simp; try with_reducible rfl)
 try simp only [Act.put, sA]
 refine lv (.bool true) 23 (some 45) rfl (fun w => ?_) ?_; (· (go_simp; try with_reducible rfl)); try simp only [Act.put, sA]
 refine lv (.bool true) 24 (some 46) rfl (fun w => ?_) ?_; (· (go_simp; try with_reducible rfl)); try simp only [Act.put, sA]
 refine lv (.bool true) 25 (some 47) rfl (fun w => ?_) ?_; (· (go_simp; try with_reducible rfl)); try simp only [Act.put, sA]
 refine lv ?_ 26 (some 48) rfl (fun w => ?_) ?_; rotate_left; (· (go_simp; try with_reducible rfl)); try simp only [Act.put, sA]
 refine lv ?_ 27 (some 49) rfl (fun w => ?_) ?_; rotate_left; (· (go_simp; try with_reducible rfl)); try simp only [Act.put, sA]
 refine lv ?_ 28 (some 50) rfl (fun w => ?_) ?_; rotate_left; (· (go_simp; try with_reducible rfl)); try simp only [Act.put, sA]
 refine lv ?_ 29 (some 51) rfl (fun w => ?_) ?_; rotate_left; (· (go_simp; try with_reducible rfl)); try simp only [Act.put, sA]
 refine lr (.int .i64 (y : Int)) 30 (some 52) rfl (fun w hSw => ?_) hHeld ?_
 · have q0 := hSw.1.cell 0; have q1 := hSw.1.cell 1; have q2 := hSw.1.cell 2; have p0 := hSw.2.cell 0; have p1 := hSw.2.cell 1; have p2 := hSw.2.cell 2; simp only [ftC] at q0 q1 q2 p0 p1 p2; (go_simp; try with_reducible rfl)
 try simp only [Act.put, sA]
 refine lv (.iface 33 (.int .i64 (y : Int))) 31 (some 53) rfl (fun w => ?_) ?_; (· (go_simp; try with_reducible rfl)); try simp only [Act.put, sA]
 refine lt_one 32 rfl (by kernel_rfl) rfl (fun K hK => ?_)
 go_simp
 refine (HIS.out _ hHeld.1).mono ?_
 rintro e w3 ⟨rfl, rfl⟩
 go_wp2_with fail
 refine hK.out _ _ (fun _ h => h) ?_
 clear hK K
 try simp only [Act.put, sA]
 refine lv (.bool true) 33 (some 55) rfl (fun w => ?_) ?_; (· (go_simp; try with_reducible rfl)); try simp only [Act.put, sA]
 refine lv (.bool true) 34 (some 56) rfl (fun w => ?_) ?_; (· (go_simp; try with_reducible rfl)); try simp only [Act.put, sA]
 refine lv ?_ 35 (some 57) rfl (fun w => ?_) ?_; rotate_left; (· (go_simp; try with_reducible rfl)); try simp only [Act.put, sA]
 refine lv ?_ 37 (some 59) rfl (fun w => ?_) ?_; rotate_left; (· (go_simp; try with_reducible rfl)); try simp only [Act.put, sA]
 refine lr (.string s) 38 (some 60) rfl (fun w hSw => ?_) hHeld ?_
 · have q0 := hSw.1.cell 0; have q1 := hSw.1.cell 1; have q2 := hSw.1.cell 2; have p0 := hSw.2.cell 0; have p1 := hSw.2.cell 1; have p2 := hSw.2.cell 2; simp only [ftC] at q0 q1 q2 p0 p1 p2; (go_simp; try with_reducible rfl)
 try simp only [Act.put, sA]
 refine lv (.string (s ++ sAt)) 39 (some 61) rfl (fun w => ?_) ?_; (· (have hq : sAt.size = 4 := rfl; have hq2 : sColon.size = 2 := rfl; go_simp; first | done | omega | (rw [if_neg (by omega)]; rfl) | rfl)); try simp only [Act.put, sA]
 refine lv ?_ 40 (some 62) rfl (fun w => ?_) ?_; rotate_left; (· (go_simp; try with_reducible rfl)); try simp only [Act.put, sA]
 refine lr (.int .i64 (a : Int)) 41 (some 63) rfl (fun w hSw => ?_) hHeld ?_
 · have q0 := hSw.1.cell 0; have q1 := hSw.1.cell 1; have q2 := hSw.1.cell 2; have p0 := hSw.2.cell 0; have p1 := hSw.2.cell 1; have p2 := hSw.2.cell 2; simp only [ftC] at q0 q1 q2 p0 p1 p2; (go_simp; try with_reducible rfl)
 try simp only [Act.put, sA]
 refine lv ?_ 45 (some 67) rfl (fun w => ?_) ?_; rotate_left; (· (go_simp; try with_reducible rfl)); try simp only [Act.put, sA]
 refine lv ?_ 46 (some 68) rfl (fun w => ?_) ?_; rotate_left; (· (go_simp; try with_reducible rfl)); try simp only [Act.put, sA]
 refine lv ?_ 47 (some 69) rfl (fun w => ?_) ?_; rotate_left; (· (go_simp; try with_reducible rfl)); try simp only [Act.put, sA]
 refine lr (.int .i64 (y : Int)) 48 (some 70) rfl (fun w hSw => ?_) hHeld ?_
 · have q0 := hSw.1.cell 0; have q1 := hSw.1.cell 1; have q2 := hSw.1.cell 2; have p0 := hSw.2.cell 0; have p1 := hSw.2.cell 1; have p2 := hSw.2.cell 2; simp only [ftC] at q0 q1 q2 p0 p1 p2; (go_simp; try with_reducible rfl)
 try simp only [Act.put, sA]
 refine lt_one 36 rfl (by kernel_rfl) rfl (fun K hK => ?_)
 go_simp
 refine (HFE.out _ (HW.out.trans1 C3) hHeld.1).mono ?_
 rintro e w4 ⟨rfl, k4⟩
 go_wp2_with fail
 refine hK.out _ _ (fun _ h => ⟨h.1.chg k4 (by simp), h.2.chg k4 (by simp)⟩) ?_
 replace hHeld := And.intro (hHeld.1.chg k4 (by simp)) (hHeld.2.chg k4 (by simp))
 have C4 := C3.trans1 k4
 clear C3 k4
 clear hK K
 try simp only [Act.put, sA]
 refine lt_one 42 rfl (by kernel_rfl) rfl (fun K hK => ?_)
 go_simp
 refine (HDC.out _).mono ?_
 rintro e w5 ⟨rfl, k5⟩
 go_wp2_with fail
 refine hK.out _ _ (fun _ h => ⟨h.1.chg k5 (by simp), h.2.chg k5 (by simp)⟩) ?_
 replace hHeld := And.intro (hHeld.1.chg k5 (by simp)) (hHeld.2.chg k5 (by simp))
 have C5 := C4.trans1 k5
 clear C4 k5
 clear hK K
 try simp only [Act.put, sA]
 refine lv (.string (s ++ sAt ++ d)) 43 (some 65) rfl (fun w => ?_) ?_; (· (have hq : sAt.size = 4 := rfl; have hq2 : sColon.size = 2 := rfl; go_simp; first | done | omega | (rw [if_neg (by omega)]; rfl) | rfl)); try simp only [Act.put, sA]
 refine lv (.string (s ++ sAt ++ d ++ sColon)) 44 (some 66) rfl (fun w => ?_) ?_; (· (have hq : sAt.size = 4 := rfl; have hq2 : sColon.size = 2 := rfl; go_simp; first | done | omega | (rw [if_neg (by omega)]; rfl) | rfl)); try simp only [Act.put, sA]
 refine lt_one 49 rfl (by kernel_rfl) rfl (fun K hK => ?_)
 go_simp
 refine (HEE.out _ (HW.out.trans1 C5)).mono ?_
 rintro e w6 ⟨rfl, k6⟩
 go_wp2_with fail
 refine hK.out _ _ (fun _ h => ⟨h.1.chg k6 (by simp), h.2.chg k6 (by simp)⟩) ?_
 replace C5 := C5.trans1 k6
 clear k6
 clear hK K
 try simp only [Act.put, sA]
 refine lv (.string T) 50 (some 72) rfl (fun w => ?_) ?_; (· (rw [HF.out]; have hq : sAt.size = 4 := rfl; have hq2 : sColon.size = 2 := rfl; go_simp; first | done | omega | (rw [if_neg (by omega)]; rfl) | rfl)); try simp only [Act.put, sA]
 refine lv (.bool true) 51 (some 73) rfl (fun w => ?_) ?_; (· (go_simp; try with_reducible rfl)); try simp only [Act.put, sA]
 refine lv (.bool true) 52 (some 74) rfl (fun w => ?_) ?_; (· (go_simp; try with_reducible rfl)); try simp only [Act.put, sA]
 refine lv ?_ 53 (some 4) rfl (fun w => ?_) ?_; rotate_left; (· (go_simp; try with_reducible rfl)); try simp only [Act.put, sA]
 refine lt_done (by kernel_rfl) ?_ _
 go_wp2_with fail
 go_ret
 exact ⟨rfl, C5⟩
end Go.Proofs.YtgjclegpnbjlkaaGreatDoor
