/- Joined: W20, W21, W22. -/
import Derived.Test.YtgjclegpnbjlkaaGreatDoorMwB
import Derived.Test.YtgjclegpnbjlkaaGreatDoorSeL
import Derived.Laws.Strings
import Derived.Test.YtgjclegpnbjlkaaGreatDoorMwC
import Derived.Test.YtgjclegpnbjlkaaGreatDoorMwT
import Derived.Defers
import Derived.Recover
set_option linter.all false
namespace Go.Proofs.YtgjclegpnbjlkaaGreatDoor
set_option maxHeartbeats 8000000
set_option maxRecDepth 100000
open Go.RowKit
theorem Chg.cellW {w w' : World} {l : List Nat} (h : Chg w w' l) (g o : Nat) (hg : g < w.heap.size) (hl : ¬ g ∈ l) : w'.cell? ⟨g, o, none⟩ = w.cell? ⟨g, o, none⟩ := by unfold World.cell?; rw [h.block g hg hl]
def sFrame : ByteArray := ⟨#[102, 114, 97, 109, 101]⟩
def mgN : Nat → Nat := fun j => if j = 0 then 82 else if j = 1 then 73 else if j = 2 then 77 else 69
theorem zeroRdr : (Tryz.prog.info? 186).bind (·.zero) = some (.agg #[.slice none 0 0, .int .i64 0, .string ⟨#[]⟩, .int .i64 0]) := by kernel_rfl
theorem rdrInfo : (Tryz.prog.info? 186).map (·.size) = some 4 := by kernel_rfl
theorem readHead_ok (g o n c : Nat) (F : Nat → Nat) (K L : Nat) (hn : 10 ≤ n) (hc : n ≤ c) (hc2 : c ≤ 9223372036854775807) (w : World) (hB : Bs w g o n F) (hm : ∀ i, i < 4 → F i = mgN i) (hv : F 4 = 1) (hK : F 5 = K ∧ 1 ≤ K ∧ K ≤ 6) (hL : nm F 6 4 = L ∧ L ≤ 1065189) :
   Calls Tryz.prog 67 #[.slice (some ⟨g, o, none⟩) n c] w fun e w' => e = .returned (.tuple #[.int .i64 (K : Int), .int .i64 (((14 + L : Nat)) : Int)]) ∧ Chg w w' [] := by
 have HA : Hid (10 ≤ n ∧ n ≤ c ∧ c ≤ 9223372036854775807) := ⟨hn, hc, hc2⟩
 have HB : Hid (Bs w g o n F) := hB
 have HM : Hid (∀ i, i < 4 → F i = mgN i) := hm
 have HGL : Hid (g < w.heap.size) := hB.lt
 have HT : Hid (∀ (w' : World) (r : Nat) (b : Int) (s : ByteArray) (i : Nat), i < 4 → Rd w' r (.slice (some ⟨g, o, none⟩) n c) (i : Int) s b → Calls Tryz.prog 90 #[.pointer (some ⟨r, 0, none⟩), .int .i64 1] w' fun e w'' => e = .returned (.slice (some ⟨g, o + i, none⟩) 1 (c - i)) ∧ Rd w'' r (.slice (some ⟨g, o, none⟩) n c) ((i : Int) + ((1 : Nat) : Int)) s b ∧ Chg w' w'' [r]) :=
   fun w' r b s i hi h => take_ok r n c g o i 1 b s (by omega) hc (by omega) hc2 w' h
 have HN4 : Hid (∀ w' r b s, Rd w' r (.slice (some ⟨g, o, none⟩) n c) ((4 : Nat) : Int) s b → Bs w' g o n F → ¬ g = r → Calls Tryz.prog 91 #[.pointer (some ⟨r, 0, none⟩), .int .i64 1] w' fun e w'' => e = .returned (.int .u32 1) ∧ Rd w'' r (.slice (some ⟨g, o, none⟩) n c) ((5 : Nat) : Int) s b ∧ Chg w' w'' [r]) :=
   fun w' r b s h1 h2 h3 => (number_ok r n c g o 4 1 F b s (by omega) (by omega) hc (by omega) hc2 w' h1 h2 h3).mono fun e w'' ⟨h4, h5, h6⟩ => ⟨by rw [h4]; simp [nm, hv], h5, h6⟩
 have HN5 : Hid (∀ w' r b s, Rd w' r (.slice (some ⟨g, o, none⟩) n c) ((5 : Nat) : Int) s b → Bs w' g o n F → ¬ g = r → Calls Tryz.prog 91 #[.pointer (some ⟨r, 0, none⟩), .int .i64 1] w' fun e w'' => e = .returned (.int .u32 (K : Int)) ∧ Rd w'' r (.slice (some ⟨g, o, none⟩) n c) ((6 : Nat) : Int) s b ∧ Chg w' w'' [r]) :=
   fun w' r b s h1 h2 h3 => (number_ok r n c g o 5 1 F b s (by omega) (by omega) hc (by omega) hc2 w' h1 h2 h3).mono fun e w'' ⟨h4, h5, h6⟩ => ⟨by rw [h4]; simp [nm, hK.1], h5, h6⟩
 have HN6 : Hid (∀ w' r b s, Rd w' r (.slice (some ⟨g, o, none⟩) n c) ((6 : Nat) : Int) s b → Bs w' g o n F → ¬ g = r → Calls Tryz.prog 91 #[.pointer (some ⟨r, 0, none⟩), .int .i64 4] w' fun e w'' => e = .returned (.int .u32 (L : Int)) ∧ Rd w'' r (.slice (some ⟨g, o, none⟩) n c) ((10 : Nat) : Int) s b ∧ Chg w' w'' [r]) :=
   fun w' r b s h1 h2 h3 => (number_ok r n c g o 6 4 F b s (by omega) (by omega) hc (by omega) hc2 w' h1 h2 h3).mono fun e w'' ⟨h4, h5, h6⟩ => ⟨by rw [h4, hL.1], h5, h6⟩
 have HKL : Hid ((1 ≤ K ∧ K ≤ 6) ∧ L ≤ 1065189) := ⟨hK.2, hL.2⟩
 clear hn hc hc2 hB hm hv hK hL
 go_enter Tryz.func67, Tryz.ntmps67
 go_wp2_with (first
   | (refine store_w BR rfl 186 _ _ #[.slice (some ⟨g, o, none⟩) n c, .int .i64 0, .string sFrame, .int .i64 (n : Int)] rfl rfl rfl rdrInfo rfl (by simp [Value.oneCell']) ?_; intro w2 BR2 k2)
   | (with_reducible refine alloc_w rfl 186 rfl (.agg #[.slice none 0 0, .int .i64 0, .string ⟨#[]⟩, .int .i64 0]) zeroRdr #[.slice none 0 0, .int .i64 0, .string ⟨#[]⟩, .int .i64 0] rfl ?_; intro r w1 hr BR k1))
 have R2 : Rd w2 r (.slice (some ⟨g, o, none⟩) n c) ((0 : Nat) : Int) sFrame (n : Int) := BR2
 have HR : Hid (w.heap.size ≤ r ∧ ¬ g = r) := ⟨hr, by have := HGL.out; omega⟩
 have C2 : Chg w w2 [] := k1.new k2 hr
 clear BR BR2 k1 k2 hr
 go_loopw [12] (fun t wr => ∃ i : Nat, i ≤ 4 ∧ t = .int .i64 (i : Int) ∧ Rd wr r (.slice (some ⟨g, o, none⟩) n c) (i : Int) sFrame (n : Int) ∧ Chg w wr []) (fun t _ => (4 - intOf t).toNat)
 case atStart => exact ⟨0, by omega, rfl, R2, C2⟩
 case round =>
   clear R2 C2
   obtain ⟨i, hi, rfl, R, C⟩ := hrel
   by_cases h8 : i < 4
   · have hI : (i : Int) < 4 := by omega
     have e1 : IntKind.i64.wrap ((i : Int) + 1) = (i : Int) + 1 := by rw [IntKind.wrap_i64]; omega
     have HI : Hid (i < 4) := h8
     have hF := HM.out i h8
     have HFI : Hid (w.cell? ⟨g, o + i, none⟩ = some (.int .u8 ((mgN i : Nat) : Int))) := by
       have q := HB.out.cell i (by have := HA.out; omega)
       rw [hF] at q
       exact q
     clear hi h8 hF
     go_wp2_with fail
     refine lt_begin (fun w' => w'.cell? ⟨g, o + i, none⟩ = some (.int .u8 ((mgN i : Nat) : Int))) (fun _ => false) (by kernel_rfl) ?_
     have hHeld : wr.drew.cell? ⟨g, o + i, none⟩ = some (.int .u8 ((mgN i : Nat) : Int)) := (C.drew.cellW g _ HGL.out (by simp)).trans HFI.out
     have R3 : Rd wr.drew r (.slice (some ⟨g, o, none⟩) n c) (i : Int) sFrame (n : Int) := Blk.drew R
     have C3 := C.drew
     obtain ⟨z, hz⟩ : ∃ z, z = wr.drew := ⟨_, rfl⟩
     rw [← hz] at hHeld R3 C3 ⊢
     clear hz R C
     refine lv ?_ 3 (some 18) rfl (fun w => ?_) ?_; rotate_left; (· (go_simp; try with_reducible rfl)); try simp only [Act.put, sA]
     refine lv (.int .u8 ((mgN i : Nat) : Int)) 4 (some 19) rfl (fun w => ?_) ?_; (· (have h4 : i = 0 ∨ i = 1 ∨ i = 2 ∨ i = 3 := (by have := HI.out; omega); rcases h4 with rfl | rfl | rfl | rfl <;> (go_simp; try rfl))); try simp only [Act.put, sA]
     refine lt_one 0 rfl (by kernel_rfl) rfl (fun K hK => ?_)
     go_simp
     refine (HT.out _ r _ _ i HI.out R3).mono ?_
     rintro e w4 ⟨rfl, R4, k4⟩
     go_wp2_with fail
     refine hK.out _ _ (fun _ h => (k4.cellW g _ (by have := HGL.out; have := C3.size; omega) (by have := HR.out; simp; exact this.2)).trans h) ?_
     replace hHeld := (k4.cellW g _ (by have := HGL.out; have := C3.size; omega) (by have := HR.out; simp; exact this.2)).trans hHeld
     have C4 := C3.new k4 HR.out.1
     clear C3 R3 k4
     clear hK K
     try simp only [Act.put, sA]
     refine lv ?_ 1 (some 16) rfl (fun w => ?_) ?_; rotate_left; (· (go_simp; try with_reducible rfl)); try simp only [Act.put, sA]
     refine lr ?_ 2 (some 17) rfl (fun w hSw => ?_) hHeld ?_
     rotate_left
     · have hSw' := hSw; (go_simp; try with_reducible rfl)
     try simp only [Act.put, sA]
     refine lv (.bool false) 5 (some 20) rfl (fun w => ?_) ?_; (· (go_simp; try with_reducible rfl)); try simp only [Act.put, sA]
     refine lt_done (by kernel_rfl) ?_ _
     go_wp2_with fail
     exact ⟨⟨i + 1, by have := HI.out; omega, by go_num, R4, C4⟩, by have := HI.out; simp [intOf]; omega⟩
   · have hI : ¬ (i : Int) < 4 := by omega
     obtain rfl : i = 4 := by omega
     have hk : IntKind.i64.wrap (K : Int) = (K : Int) := by have := HKL.out; rw [IntKind.wrap_i64]; omega
     have hd : decide (1 ≤ (K : Int) ∧ (K : Int) ≤ 6) = true := by have := HKL.out; exact decide_eq_true ⟨by omega, by omega⟩
     have hl : ¬ (1065189 : Int) < (L : Int) := by have := HKL.out; omega
     have hl1 : IntKind.i64.wrap (L : Int) = (L : Int) := by have := HKL.out; rw [IntKind.wrap_i64]; omega
     have hl2 : IntKind.i64.wrap (10 + (L : Int)) = 10 + (L : Int) := by have := HKL.out; rw [IntKind.wrap_i64]; omega
     have hl3 : IntKind.i64.wrap (10 + (L : Int) + 4) = 10 + (L : Int) + 4 := by have := HKL.out; rw [IntKind.wrap_i64]; omega
     clear hi h8
     have B := HB.out.chg C (by simp)
     go_wp2_with fail
     refine (HN4.out wr r _ _ R B HR.out.2).mono ?_
     rintro e w4 ⟨rfl, R4, k4⟩
     have B4 := B.chg k4 (by simp; exact HR.out.2)
     have C4 := C.new k4 HR.out.1
     clear R B C k4
     go_wp2_with fail
     refine (HN5.out w4 r _ _ R4 B4 HR.out.2).mono ?_
     rintro e w5 ⟨rfl, R5, k5⟩
     have B5 := B4.chg k5 (by simp; exact HR.out.2)
     have C5 := C4.new k5 HR.out.1
     clear R4 B4 C4 k5
     go_wp2_with fail
     refine (isKind_s (K : Int) w5).mono ?_
     rintro e w6 ⟨rfl, rfl⟩
     rw [hd]
     go_wp2_with fail
     refine (HN6.out w6 r _ _ R5 B5 HR.out.2).mono ?_
     rintro e w7 ⟨rfl, R7, k7⟩
     have C7 := C5.new k7 HR.out.1
     clear R5 B5 C5 k7
     go_wp2_with fail
     go_ret2
     exact ⟨by have e : (10 + (L : Int) + 4) = ((14 + L : Nat) : Int) := (by omega); simp [e], C7⟩
end Go.Proofs.YtgjclegpnbjlkaaGreatDoor

set_option linter.all false
namespace Go.Proofs.YtgjclegpnbjlkaaGreatDoor
set_option maxHeartbeats 8000000
set_option maxRecDepth 100000
open Go.RowKit
theorem msInfoV : (Tryz.prog.info? 35).map (·.size) = some 231 := by kernel_rfl
theorem s4InfoV : (Tryz.prog.info? 98).map (·.size) = some 4 := by kernel_rfl
theorem u8InfoV : ∃ i, Tryz.prog.info? 5 = some i := Option.isSome_iff_exists.1 (by kernel_rfl)
theorem u8CellsV : Tryz.prog.cellsOf 5 = 1 := by kernel_rfl
def eqnW (n : Nat) (f g : Nat → Nat) : Bool := (List.range n).all fun i => ((f i : Nat) : Int) == ((g i : Nat) : Int)
theorem eqnW_iff (n : Nat) (f g : Nat → Nat) : eqnW n f g = true ↔ ∀ i, i < n → f i = g i := by
 simp [eqnW, Int.natCast_inj]
theorem eqnW_self (n : Nat) (f : Nat → Nat) : eqnW n f f = true := (eqnW_iff n f f).2 fun _ _ => rfl
@[go_sem] theorem eq_sum4 (f g : Nat → Nat) (w : World) : (Op.equalIn 10000 98 (.agg (yC 4 f)) (.agg (yC 4 g))).run Tryz.prog w = .ok (eqnW 4 f g) w := by
 obtain ⟨i, hi⟩ := u8InfoV
 rw [show (10000 : Nat) = 9998 + 1 + 1 from rfl, run_equalIn_array w 9999 _ _ Tryz.underlying98 hi, u8CellsV]
 exact eqItems_ints w 9998 Tryz.underlying5 _ _ (fun i => ((f i : Nat) : Int)) (fun i => ((g i : Nat) : Int)) (List.range 4) (fun j hj => ⟨yC_get 4 f j (by simpa using hj), yC_get 4 g j (by simpa using hj)⟩)
theorem Bs.lo {w : World} {g o n m : Nat} {f : Nat → Nat} (h : Bs w g o n f) (hm : m ≤ n) : Bs w g o m f := ⟨h.lt, fun i hi => h.bd i (by omega), fun i hi => h.cell i (by omega)⟩
theorem readFrame_short (g o n c z : Nat) (K : Int) (hz : n < z) (hc : n ≤ 9223372036854775807) (w : World)
   (hH : ∀ W, Chg w W [] → Calls Tryz.prog 67 #[.slice (some ⟨g, o, none⟩) n c] W fun e w' => e = .returned (.tuple #[.int .i64 K, .int .i64 (z : Int)]) ∧ Chg W w' []) :
   Calls Tryz.prog 60 #[.slice (some ⟨g, o, none⟩) n c] w fun e w' => Gu w.heap.size sFrame (n : Int) 3 e w' ∧ Chg w w' [] := by
 have HH : Hid (∀ W, Chg w W [] → Calls Tryz.prog 67 #[.slice (some ⟨g, o, none⟩) n c] W fun e w' => e = .returned (.tuple #[.int .i64 K, .int .i64 (z : Int)]) ∧ Chg W w' []) := hH
 have hl : (n : Int) < (z : Int) := by omega
 clear hH hz
 go_enter Tryz.func60, Tryz.ntmps60
 go_wp2_with (first
   | (with_reducible refine alloc_w rfl 35 rfl (.agg (msC (ms0 0))) zeroMsg (msC (ms0 0)) rfl ?_; intro ab w1 hab BA k1))
 refine (HH.out w1 k1).mono ?_
 rintro e w2 ⟨rfl, k2⟩
 have C2 := k1.trans1 k2
 clear k1 k2 BA
 go_wp2_with fail
 refine (giveUp_s sFrame (n : Int) 3 w2).mono ?_
 rintro e w5 ⟨⟨v5, rfl, hf⟩, k5⟩
 exact ⟨rfl, ⟨v5, rfl, hf.lw C2.size⟩, C2.trans1 k5⟩
theorem readFrame_ok (g o n c A : Nat) (F : Nat → Nat) (K : Int) (M : Ms) (hM : M.list.oneCell' = true ∧ M.text.oneCell' = true) (hA : A + 4 = n) (hc : n ≤ c) (hc2 : c ≤ 9223372036854775807) (w : World) (hG : Gl w) (hB : Bs w g o n F) (hs : ∀ j, j < 4 → F (A + j) = sha F A j)
   (hH : ∀ W, Chg w W [] → Calls Tryz.prog 67 #[.slice (some ⟨g, o, none⟩) n c] W fun e w' => e = .returned (.tuple #[.int .i64 K, .int .i64 (n : Int)]) ∧ Chg W w' [])
   (hMs : ∀ W r, Rd W r (.slice (some ⟨g, o, none⟩) A c) ((10 : Nat) : Int) ⟨#[]⟩ 0 → Bs W g o A F → ¬ g = r → Calls Tryz.prog 86 #[.pointer (some ⟨r, 0, none⟩), .int .i64 K] W fun e w' => e = .returned (.agg (msC M)) ∧ Chg W w' [r]) :
   Calls Tryz.prog 60 #[.slice (some ⟨g, o, none⟩) n c] w fun e w' => e = .returned (.agg (msC M)) ∧ Chg w w' [] := by
 have HH : Hid (∀ W, Chg w W [] → Calls Tryz.prog 67 #[.slice (some ⟨g, o, none⟩) n c] W fun e w' => e = .returned (.tuple #[.int .i64 K, .int .i64 (n : Int)]) ∧ Chg W w' []) := hH
 have HMs : Hid (∀ W r, Rd W r (.slice (some ⟨g, o, none⟩) A c) ((10 : Nat) : Int) ⟨#[]⟩ 0 → Bs W g o A F → ¬ g = r → Calls Tryz.prog 86 #[.pointer (some ⟨r, 0, none⟩), .int .i64 K] W fun e w' => e = .returned (.agg (msC M)) ∧ Chg W w' [r]) := hMs
 have HM : Hid (M.list.oneCell' = true ∧ M.text.oneCell' = true) := hM
 have HA : Hid (A + 4 = n ∧ n ≤ c ∧ c ≤ 9223372036854775807) := ⟨hA, hc, hc2⟩
 have HB : Hid (Bs w g o n F) := hB
 have HG : Hid (Gl w) := hG
 have HGL : Hid (g < w.heap.size) := hB.lt
 have HSU : Hid (∀ W cc, Chg w W [] → A ≤ cc → cc ≤ 9223372036854775807 → Calls Tryz.prog 32 #[.slice (some ⟨g, o, none⟩) A cc] W fun e w' => e = .returned (.agg (yC 4 (sha F A))) ∧ Chg W w' []) := fun W cc k h1 h2 =>
   sumOf_s _ A F W (HG.out.chg k (by simp) (by simp)) (((HB.out.chg k (by simp)).lo (by omega)).sl cc h1 h2) (by omega)
 have HS4 : Hid (yL 4 (fun j => F (A + j)) = yL 4 (sha F A)) := List.map_congr_left fun j hj => by show Value.int .u8 ((F (A + j) : Nat) : Int) = _; rw [hs j (by simpa using hj)]
 have i0 : ¬ (n : Int) < (n : Int) := by omega
 have i1 : IntKind.i64.wrap ((n : Int) - 4) = (A : Int) := by rw [IntKind.wrap_i64]; omega
 have i2 : (A : Int) ≤ (n : Int) := by omega
 have i3 : (A : Int) ≤ (c : Int) := by omega
 have i4 : (n : Int) ≤ (c : Int) := by omega
 have i5 : (0 : Int) ≤ (A : Int) := by omega
 have i6 : ¬ c = A := by omega
 have i7 : n - A = 4 := by omega
 obtain ⟨SH, hSH⟩ : ∃ SH, sha F A = SH := ⟨_, rfl⟩
 rw [hSH] at HSU HS4
 clear hH hMs hM hA hc hc2 hG hB hs hSH
 go_enter Tryz.func60, Tryz.ntmps60
 go_wp2_with (first
   | (with_reducible refine alloc_w rfl 35 rfl (.agg (msC (ms0 0))) zeroMsg (msC (ms0 0)) rfl ?_; intro ab w1 hab BA k1))
 refine (HH.out w1 k1).mono ?_
 rintro e w2 ⟨rfl, k2⟩
 have HAB : Hid (w.heap.size ≤ ab) := hab
 have C2 := k1.trans1 k2
 have BA2 := BA.chg k2 (by simp)
 clear k1 k2 BA hab
 go_wp2_with fail
 refine lt_begin (fun w' => Bs w' g o n F) (fun _ => false) (by kernel_rfl) ?_
 have C3 := C2.drew
 have hHeld : Bs w2.drew g o n F := HB.out.chg C3 (by simp)
 have BA3 := BA2.drew
 obtain ⟨z, hz⟩ : ∃ z, z = w2.drew := ⟨_, rfl⟩
 rw [← hz] at hHeld C3 BA3 ⊢
 clear hz BA2 C2
 refine lv ?_ 0 (some 27) rfl (fun w => ?_) ?_; rotate_left; (· (go_simp; try with_reducible rfl)); try simp only [Act.put, sA]
 refine lv ?_ 1 (some 28) rfl (fun w => ?_) ?_; rotate_left; (· (go_simp; try with_reducible rfl)); try simp only [Act.put, sA]
 refine lv (.slice (some ⟨g, o, none⟩) A c) 2 (some 29) rfl (fun w => ?_) ?_; (· (go_simp; try with_reducible rfl)); try simp only [Act.put, sA]
 refine lv ?_ 4 (some 31) rfl (fun w => ?_) ?_; rotate_left; (· (go_simp; try with_reducible rfl)); try simp only [Act.put, sA]
 refine lv ?_ 5 (some 32) rfl (fun w => ?_) ?_; rotate_left; (· (go_simp; try with_reducible rfl)); try simp only [Act.put, sA]
 refine lv (.slice (some ⟨g, o + A, none⟩) 4 (c - A)) 6 (some 33) rfl (fun w => ?_) ?_; (· (go_simp; try with_reducible rfl)); try simp only [Act.put, sA]
 refine lv (.pointer (some ⟨g, o + A, none⟩)) 7 (some 34) rfl (fun w => ?_) ?_
 · have hat : ∀ W, (Instr.arrayAt 98 (.slice (some ⟨g, o + A, none⟩) 4 (c - A))).run Tryz.prog W = .ok (.pointer (some ⟨g, o + A, none⟩)) W := fun W => run_arrayAt (w := W) 98 _ 4 _ 4 (c - A) Tryz.underlying98 (by omega); (go_simp; try with_reducible rfl)
 try simp only [Act.put, sA]
 refine lr (.agg (yC 4 SH)) 8 (some 35) rfl (fun w hSw => ?_) hHeld ?_
 · skip; exact (exec_load_m w 98 (.tmp 34) rfl g (o + A) rfl (yL 4 SH) _ (by rw [← HS4.out]; exact (hSw.sub A 4 (by have := HA.out; omega)).rg) Tryz.underlying98 rfl (by rw [yL_len]; exact s4InfoV))
 try simp only [Act.put, sA]
 refine lt_one 3 rfl (by kernel_rfl) rfl (fun K hK => ?_)
 go_simp
 refine (HSU.out _ c C3 (by have := HA.out; omega) HA.out.2.2).mono ?_
 rintro e w4 ⟨rfl, k4⟩
 go_wp2_with fail
 refine hK.out _ _ (fun _ h => h.chg k4 (by simp)) ?_
 replace hHeld := hHeld.chg k4 (by simp)
 have C4 := C3.trans1 k4
 have BA4 := BA3.chg k4 (by simp)
 clear C3 BA3 k4
 clear hK K
 try simp only [Act.put, sA]
 refine lv (.bool false) 9 (some 36) rfl (fun w => ?_) ?_; (· (go_simp; rw [eqnW_self])); try simp only [Act.put, sA]
 refine lt_done (by kernel_rfl) ?_ _
 go_wp2_with (first
   | (refine store_w BR rfl 186 _ _ #[.slice (some ⟨g, o, none⟩) A c, .int .i64 10, .string ⟨#[]⟩, .int .i64 0] rfl rfl rfl rdrInfo rfl (by simp [Value.oneCell']) ?_; intro w6 BR6 k6)
   | (with_reducible refine alloc_w rfl 186 rfl (.agg #[.slice none 0 0, .int .i64 0, .string ⟨#[]⟩, .int .i64 0]) zeroRdr #[.slice none 0 0, .int .i64 0, .string ⟨#[]⟩, .int .i64 0] rfl ?_; intro r w5 hr BR k5))
 have R6 : Rd w6 r (.slice (some ⟨g, o, none⟩) A c) ((10 : Nat) : Int) ⟨#[]⟩ 0 := BR6
 have HR : Hid (w.heap.size ≤ r ∧ ¬ g = r ∧ ¬ ab = r) := by have := HGL.out; have := C4.size; have := BA4.lt; exact ⟨by omega, by omega, by omega⟩
 have C6 := (C4.trans1 k5).new k6 HR.out.1
 have BA6 := (BA4.chg k5 (by simp)).chg k6 (by simp; exact HR.out.2.2)
 have B6 := (HB.out.chg C6 (by simp)).lo (show A ≤ n by have := HA.out; omega)
 clear BR BR6 k5 k6 hr C4 BA4 hHeld
 refine (HMs.out w6 r R6 B6 HR.out.2.1).mono ?_
 rintro e w7 ⟨rfl, k7⟩
 have C7 := C6.new k7 HR.out.1
 have BA7 := BA6.chg k7 (by simp; exact HR.out.2.2)
 clear R6 B6 C6 BA6 k7
 go_wp2_with (first
   | (refine store_w BA7 rfl 35 _ _ (msC M) rfl rfl rfl (by rw [msC_size]; exact msInfoV) (by rw [msC_size, msC_size]) (ms_oneC _ HM.out.1 HM.out.2) ?_; intro w13 BA13 k13))
 exact bodyPost_ret (results_cell_row Tryz.results60 _ _ ab 35 (msC M) (0, 0) _ rfl BA13 Tryz.underlying35 rfl (by rw [msC_size]; exact msInfoV)) rfl ⟨rfl, C7.new k13 HAB.out⟩
end Go.Proofs.YtgjclegpnbjlkaaGreatDoor

set_option linter.all false
namespace Go.Proofs.YtgjclegpnbjlkaaGreatDoor
set_option maxHeartbeats 4000000
set_option maxRecDepth 100000
open Go.RowKit
theorem caught_nil (w : World) : Calls Tryz.prog 59 #[.nilIface] w fun e w' => e = .returned .nilIface ∧ w' = w := by
 go_enter Tryz.func59, Tryz.ntmps59
 go_wp2_with fail
 go_ret
 exact ⟨rfl, rfl⟩
theorem flt_is (p : Value) (xT : TypeId) (w : World) : (Instr.typeAssert (.iface 106 p) xT 106 true).run Tryz.prog w = .ok (.tuple #[p, .bool true]) w := by kernel_rfl
theorem caught_flt (p : Value) (w : World) : Calls Tryz.prog 59 #[.iface 106 p] w fun e w' => e = .returned (.iface 106 p) ∧ w' = w := by
 have hta := flt_is p
 go_enter Tryz.func59, Tryz.ntmps59
 go_wp2_with fail
 go_ret
 exact ⟨rfl, rfl⟩
theorem decode_idle (p : Addr) (w : World) (hc : w.cell? p = some .nilIface) (hz : w.frozen? p = false) : CallsD Tryz.prog 58 #[.pointer (some p)] .returning w fun e u' w' => e = .returned (.tuple #[]) ∧ u' = .returning ∧ w' = w.setCell p .nilIface := by
 refine callsD_of_wpS Tryz.func58 rfl fun c₀ cs hu => ?_
 apply wpS_region
 simp [wpOpsS, go_sem, recoverD, hu, Tryz.ntmps58, Exit.thenS]
 refine (caught_nil w).mono ?_
 rintro e w' ⟨rfl, rfl⟩
 cases c₀
 simp_all [go_sem, storeCells, bodyPostS, results, Tryz.results58, Exit.thenS]
theorem decode_caught (p : Addr) (v : Value) (pv : Value) (older : List PanicEntry) (w : World) (hc : w.cell? p = some v) (hz : w.frozen? p = false) : CallsD Tryz.prog 58 #[.pointer (some p)] (.panicking ({ v := .iface 106 pv, recovered := false } :: older)) w fun e u' w' => e = .returned (.tuple #[]) ∧ u' = .panicking ({ v := .iface 106 pv, recovered := true } :: older) ∧ w' = w.setCell p (.iface 106 pv) := by
 refine callsD_of_wpS Tryz.func58 rfl fun c₀ cs hu => ?_
 apply wpS_region
 simp [wpOpsS, go_sem, recoverD, hu, Tryz.ntmps58, Exit.thenS]
 refine (caught_flt pv w).mono ?_
 rintro e w' ⟨rfl, rfl⟩
 cases c₀
 simp_all [go_sem, storeCells, bodyPostS, results, Tryz.results58, Exit.thenS]
theorem results_ccW {P : Program} {fn : Func} {p q : Tmp} {ty te : TypeId} (h : fn.results = #[.cell p ty, .cell q te]) (tmps : Array Value) (w : World) (g : Nat) (t : TypeId) (cs : Array Value) (d : TypeDesc) (eb : Nat) (v : Value)
   (hp : tmps.getD p undef = .pointer (some ⟨g, 0, none⟩)) (hq : tmps.getD q undef = .pointer (some ⟨eb, 0, none⟩)) (hg : Blk w g cs t)
   (hu : P.underlying ty = some d) (hd : (match d with | .struct _ | .array _ _ => true | _ => false) = true) (hi : (P.info? ty).map (·.size) = some cs.size) (hl : (loadVar te ⟨eb, 0, none⟩).run P w = .ok v w) :
   (results fn tmps).run P w = .ok (.tuple #[.agg cs, v]) w := by
 have hp' : tmps[p]?.getD undef = .pointer (some ⟨g, 0, none⟩) := by simpa using hp
 have hq' : tmps[q]?.getD undef = .pointer (some ⟨eb, 0, none⟩) := by simpa using hq
 simp [results, h, hp', hq', asAddr, run_loadVar_row w g t ty cs (0, 0) d hg hu hd hi, hl]
theorem load_err {w : World} {eb : Nat} {v : Value} (B : Blk w eb #[v] 54) : (loadVar 54 ⟨eb, 0, none⟩).run Tryz.prog w = .ok v w := by
 have c := B.cell 0
 simp [loadVar, Tryz.underlying54, go_sem] at *
 simp [c]
theorem zeroErr : (Tryz.prog.info? 54).bind (·.zero) = some .nilIface := by kernel_rfl
theorem Decode_ok (v : Value) (M : Ms) (hM : M.list.oneCell' = true ∧ M.text.oneCell' = true) (w : World) (hR : ∀ W, Chg w W [] → Calls Tryz.prog 60 #[v] W fun e w' => e = .returned (.agg (msC M)) ∧ Chg W w' []) :
   Calls Tryz.prog 15 #[v] w fun e w' => e = .returned (.tuple #[.agg (msC M), .nilIface]) ∧ Chg w w' [] := by
 have HR : Hid (∀ W, Chg w W [] → Calls Tryz.prog 60 #[v] W fun e w' => e = .returned (.agg (msC M)) ∧ Chg W w' []) := hR
 have HM : Hid (M.list.oneCell' = true ∧ M.text.oneCell' = true) := hM
 have hmf : ∀ (fn : Fn) (first cap : Array Value) (w : World), (Instr.makeFunc fn first cap).run Tryz.prog w = .ok (.func fn first cap) w := fun _ _ _ _ => rfl
 clear hR hM
 go_enter_defers Tryz.func15, Tryz.ntmps15
 go_wp2_with (first
   | (have _h := BR; refine alloc_w rfl 54 rfl .nilIface zeroErr #[.nilIface] rfl ?_; intro eb w2 heb BE k2)
   | (with_reducible refine alloc_w rfl 35 rfl (.agg (msC (ms0 0))) zeroMsg (msC (ms0 0)) rfl ?_; intro rb w1 hrb BR k1))
 have K2 := k1.trans1 k2
 have HS : Hid (w.heap.size ≤ rb ∧ rb < eb ∧ w.heap.size ≤ eb) := ⟨hrb, Nat.lt_of_lt_of_le BR.lt heb, Nat.le_trans k1.size heb⟩
 have BR2 := BR.chg k2 (by simp)
 clear BR k1 k2 hrb heb
 refine (HR.out w2 K2).mono ?_
 rintro e w3 ⟨rfl, k3⟩
 have BR3 := BR2.chg k3 (by simp)
 have HBE : Hid (Blk w3 eb #[.nilIface] 54) := BE.chg k3 (by simp)
 have C3 : Chg w w3 [] := K2.trans1 k3
 clear BR2 BE k3 K2
 go_wp2_with (refine store_w BR3 rfl 35 _ _ (msC M) rfl rfl rfl (by rw [msC_size]; exact msInfoV) (by rw [msC_size, msC_size]) (ms_oneC _ HM.out.1 HM.out.2) ?_; intro w4 BR4 k4; have BE4 := HBE.out.chg k4 (by have := HS.out; simp; omega); have ce := BE4.cell 0; have fe := BE4.frozen 0)
 have BR5 := BR4.setOther (show rb ≠ eb by have := HS.out; omega) 0 .nilIface
 have BE5 : Blk (w4.setCell ⟨eb, 0, none⟩ .nilIface) eb #[.nilIface] 54 := BE4.setCell 0 _
 have C5 : Chg w (w4.setCell ⟨eb, 0, none⟩ .nilIface) [] := (C3.new k4 HS.out.1).setNew HS.out.2.2 0 _
 refine leaves_cons (f := 58) (args := #[.pointer (some ⟨eb, 0, none⟩)]) (by simp) (by simp [go_sem]) ?_
 refine (decode_idle ⟨eb, 0, none⟩ _ (BE5.cell 0) (BE5.frozen 0)).mono ?_
 rintro e u' w'' ⟨rfl, rfl, rfl⟩
 have BR6 := BR5.setOther (show rb ≠ eb by have := HS.out; omega) 0 .nilIface
 have BE6 : Blk ((w4.setCell ⟨eb, 0, none⟩ .nilIface).setCell ⟨eb, 0, none⟩ .nilIface) eb #[.nilIface] 54 := BE5.setCell 0 _
 exact ⟨_, results_ccW Tryz.results15 _ _ rb 35 (msC M) _ eb .nilIface rfl rfl BR6 Tryz.underlying35 rfl (by rw [msC_size]; exact msInfoV) (load_err BE6), rfl, C5.setNew HS.out.2.2 0 _⟩
theorem Decode_gu (v : Value) (s : ByteArray) (a y : Int) (w : World) (hR : ∀ W, Chg w W [] → Calls Tryz.prog 60 #[v] W fun e w' => Gu W.heap.size s a y e w' ∧ Chg W w' []) :
   Calls Tryz.prog 15 #[v] w fun e w' => ∃ fv, e = .returned (.tuple #[.agg (msC (ms0 0)), fv]) ∧ Ft w' w.heap.size fv s a y ∧ Chg w w' [] := by
 have HR : Hid (∀ W, Chg w W [] → Calls Tryz.prog 60 #[v] W fun e w' => Gu W.heap.size s a y e w' ∧ Chg W w' []) := hR
 have hmf : ∀ (fn : Fn) (first cap : Array Value) (w : World), (Instr.makeFunc fn first cap).run Tryz.prog w = .ok (.func fn first cap) w := fun _ _ _ _ => rfl
 clear hR
 go_enter_defers Tryz.func15, Tryz.ntmps15
 go_wp2_with (first
   | (have _h := BR; refine alloc_w rfl 54 rfl .nilIface zeroErr #[.nilIface] rfl ?_; intro eb w2 heb BE k2)
   | (with_reducible refine alloc_w rfl 35 rfl (.agg (msC (ms0 0))) zeroMsg (msC (ms0 0)) rfl ?_; intro rb w1 hrb BR k1))
 have K2 := k1.trans1 k2
 have HS : Hid (w.heap.size ≤ rb ∧ rb < eb ∧ w.heap.size ≤ eb ∧ eb < w2.heap.size) := ⟨hrb, Nat.lt_of_lt_of_le BR.lt heb, Nat.le_trans k1.size heb, BE.lt⟩
 have BR2 := BR.chg k2 (by simp)
 clear BR k1 k2 hrb heb
 refine (HR.out w2 K2).mono ?_
 rintro e w3 ⟨⟨pv, rfl, g, rfl, hg, BF⟩, k3⟩
 have BR3 := BR2.chg k3 (by simp)
 have BE3 := BE.chg k3 (by simp)
 have C3 : Chg w w3 [] := K2.trans1 k3
 refine leaves_cons (f := 58) (args := #[.pointer (some ⟨eb, 0, none⟩)]) (by simp) (by simp [go_sem]) ?_
 refine (decode_caught ⟨eb, 0, none⟩ .nilIface (.pointer (some ⟨g, 0, none⟩)) [] _ (BE3.cell 0) (BE3.frozen 0)).mono ?_
 rintro e u' w'' ⟨rfl, rfl, rfl⟩
 have BR6 := BR3.setOther (show rb ≠ eb by have := HS.out; omega) 0 (.iface 106 (.pointer (some ⟨g, 0, none⟩)))
 have BE6 : Blk (w3.setCell ⟨eb, 0, none⟩ (.iface 106 (.pointer (some ⟨g, 0, none⟩)))) eb #[.iface 106 (.pointer (some ⟨g, 0, none⟩))] 54 := BE3.setCell 0 _
 have BF6 := BF.setOther (show g ≠ eb by have := HS.out; omega) 0 (.iface 106 (.pointer (some ⟨g, 0, none⟩)))
 exact ⟨_, results_ccW Tryz.results15 _ _ rb 35 (msC (ms0 0)) _ eb _ rfl rfl BR6 Tryz.underlying35 rfl (by rw [msC_size]; exact msInfoV) (load_err BE6), ⟨_, rfl, ⟨g, rfl, by have := K2.size; omega, BF6⟩, C3.setNew HS.out.2.2.1 0 _⟩⟩
end Go.Proofs.YtgjclegpnbjlkaaGreatDoor
