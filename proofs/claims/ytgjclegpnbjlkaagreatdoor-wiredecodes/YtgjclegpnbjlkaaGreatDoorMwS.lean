/- Joined: W23, W24. -/
import Derived.Test.YtgjclegpnbjlkaaGreatDoorMwZ
import Derived.Test.YtgjclegpnbjlkaaGreatDoorMwB
import Derived.Test.YtgjclegpnbjlkaaGreatDoorSeL
import Derived.Laws.Strings
import Derived.Laws.BytesArg
import Derived.Test.YtgjclegpnbjlkaaGreatDoorMwR
set_option linter.all false
namespace Go.Proofs.YtgjclegpnbjlkaaGreatDoor
set_option maxHeartbeats 8000000
set_option maxRecDepth 100000
open Go.RowKit
def sRime : ByteArray := ⟨#[114, 105, 109, 101, 32]⟩
def sAt : ByteArray := ⟨#[32, 97, 116, 32]⟩
def sColon : ByteArray := ⟨#[58, 32]⟩
def ItA (y : Nat) (t : ByteArray) : Prop := t.size ≤ 1000 ∧ ∀ W, Calls Tryz.prog 84 #[.int .i64 (y : Int)] W fun e w' => e = .returned (.string t) ∧ w' = W
theorem ErrnoError_s (y : Nat) (t : ByteArray) (ht : ItA y t) (w : World) : Calls Tryz.prog 41 #[.int .i64 (y : Int)] w fun e w' => e = .returned (.string (sRime ++ t)) ∧ w' = w := by
 have hz : ¬ 9223372036854775807 < 5 + t.size := by have := ht.1; omega
 have HT : Hid (ItA y t) := ht
 clear ht
 go_enter Tryz.func41, Tryz.ntmps41
 go_wp2_with fail
 refine (HT.out.2 w).mono ?_
 rintro e w' ⟨rfl, rfl⟩
 go_wp2_with fail
 go_ret
 exact ⟨rfl, rfl⟩
theorem dec_1 (a : Nat) (ha : a < 10) (w : World) : Calls Tryz.prog 40 #[.int .i64 (a : Int)] w fun e w' => e = .returned (.string (strOfNums [48 + (a : Int)])) ∧ Chg w w' [] := by
 have l1 : (a : Int) < 10 := by omega
 have e0 : Int.tmod (a : Int) 10 = (a : Int) := by rw [Int.tmod_eq_emod_of_nonneg (by omega)]; omega
 have e1 : IntKind.i64.wrap (48 + (a : Int)) = 48 + (a : Int) := by rw [IntKind.wrap_i64]; omega
 have e2 : IntKind.u8.wrap (48 + (a : Int)) = 48 + (a : Int) := by rw [IntKind.wrap_u8']; omega
 have hcv : (convert 29 9 (.slice (some ⟨w.heap.size, 0, none⟩) 1 1)).run Tryz.prog (w.alloc (.cells #[.int .u8 (48 + (a : Int))] 5)) = .ok (.string (strOfNums [48 + (a : Int)])) (w.alloc (.cells #[.int .u8 (48 + (a : Int))] 5)) :=
   run_convert_bytes_arg _ 29 5 Tryz.underlying29 Tryz.underlying5 w.heap.size 0 1 1 [48 + (a : Int)] rfl (fun i hi => by
     obtain rfl : i = 0 := by omega
     simp [go_sem]) 9 Tryz.underlying9
 have k : Chg w (w.alloc (.cells #[.int .u8 (48 + (a : Int))] 5)) [] := (Chg.refl w []).alloc _
 go_enter Tryz.func40, Tryz.ntmps40
 go_wp2_with fail
 go_ret
 exact ⟨rfl, k⟩
theorem dec_49 (w : World) : Calls Tryz.prog 40 #[.int .i64 49] w fun e w' => e = .returned (.string (strOfNums [52] ++ strOfNums [57])) ∧ Chg w w' [] := by
 have hcv : (convert 29 9 (.slice (some ⟨w.heap.size, 0, none⟩) 1 1)).run Tryz.prog (w.alloc (.cells #[.int .u8 57] 5)) = .ok (.string (strOfNums [57])) (w.alloc (.cells #[.int .u8 57] 5)) :=
   run_convert_bytes_arg _ 29 5 Tryz.underlying29 Tryz.underlying5 w.heap.size 0 1 1 [57] rfl (fun i hi => by
     obtain rfl : i = 0 := by omega
     simp [go_sem]) 9 Tryz.underlying9
 have k : Chg w (w.alloc (.cells #[.int .u8 57] 5)) [] := (Chg.refl w []).alloc _
 have HD : Hid (∀ W, Calls Tryz.prog 40 #[.int .i64 4] W fun e w' => e = .returned (.string (strOfNums [52])) ∧ Chg W w' []) := fun W => dec_1 4 (by decide) W
 have s1 : (strOfNums [52]).size = 1 := by rfl
 have s2 : (strOfNums [57]).size = 1 := by rfl
 go_enter Tryz.func40, Tryz.ntmps40
 go_wp2_with fail
 refine (HD.out _).mono ?_
 rintro e w2 ⟨rfl, k2⟩
 go_wp2_with fail
 go_ret
 exact ⟨rfl, k.trans1 k2⟩
def ftx (s d t : ByteArray) : ByteArray := s ++ sAt ++ d ++ sColon ++ (sRime ++ t)
theorem FaultError_s (g : Nat) (s d t : ByteArray) (a y : Nat) (hs : s.size ≤ 1000) (hd : ItA a d) (ht : ItA y t) (w : World) (h : Blk w g #[.string s, .int .i64 (a : Int), .int .i64 (y : Int)] 109) : Calls Tryz.prog 39 #[.pointer (some ⟨g, 0, none⟩)] w fun e w' => e = .returned (.string (ftx s d t)) ∧ Chg w w' [] := by
 have HD : Hid (ItA a d) := hd
 have HE : Hid (∀ W, Calls Tryz.prog 41 #[.int .i64 (y : Int)] W fun e w' => e = .returned (.string (sRime ++ t)) ∧ w' = W) := fun W => ErrnoError_s y t ht W
 have hx : (sRime ++ t).size ≤ 1005 := by have := ht.1; rw [ByteArray.size_append]; show 5 + t.size ≤ 1005; omega
 have hd1 := hd.1
 obtain ⟨x, hX⟩ : ∃ x, sRime ++ t = x := ⟨_, rfl⟩
 have HF : Hid (ftx s d t = s ++ sAt ++ d ++ sColon ++ x) := by show _ = _; rw [← hX]; rfl
 rw [hX] at HE hx
 have n1 : ¬ 9223372036854775807 < s.size + 4 := by omega
 have n2 : ¬ 9223372036854775807 < s.size + 4 + d.size := by omega
 have n3 : ¬ 9223372036854775807 < s.size + 4 + d.size + 2 := by omega
 have n4 : ¬ 9223372036854775807 < s.size + 4 + d.size + 2 + x.size := by omega
 have HB : Hid (Blk w g #[.string s, .int .i64 (a : Int), .int .i64 (y : Int)] 109) := h
 rw [HF.out]
 clear hs hd ht hX hx hd1 h
 go_enter Tryz.func39, Tryz.ntmps39
 go_wp2_with fail
 refine lt_begin (fun w' => Blk w' g #[.string s, .int .i64 (a : Int), .int .i64 (y : Int)] 109) (fun _ => false) (by kernel_rfl) ?_
 have hHeld := HB.out.drew
 have C1 := (Chg.refl w []).drew
 obtain ⟨z, hz⟩ : ∃ z, z = w.drew := ⟨_, rfl⟩
 rw [← hz] at hHeld C1 ⊢
 clear hz
 refine lv ?_ 0 (some 5) rfl (fun w => ?_) ?_; rotate_left; (· (go_simp; try with_reducible rfl)); try simp only [Act.put, sA]
 refine lv ?_ 1 (some 6) rfl (fun w => ?_) ?_; rotate_left; (· (go_simp; try with_reducible rfl)); try simp only [Act.put, sA]
 refine lv ?_ 2 (some 7) rfl (fun w => ?_) ?_; rotate_left; (· (go_simp; try with_reducible rfl)); try simp only [Act.put, sA]
 refine lr (.string s) 3 (some 8) rfl (fun w hSw => ?_) hHeld ?_
 · have q0 := hSw.cell 0; have q1 := hSw.cell 1; have q2 := hSw.cell 2; (go_simp; try with_reducible rfl)
 try simp only [Act.put, sA]
 refine lv (.string (s ++ sAt)) 4 (some 9) rfl (fun w => ?_) ?_; (· (go_simp; try rfl)); try simp only [Act.put, sA]
 refine lv ?_ 5 (some 10) rfl (fun w => ?_) ?_; rotate_left; (· (go_simp; try with_reducible rfl)); try simp only [Act.put, sA]
 refine lv ?_ 6 (some 11) rfl (fun w => ?_) ?_; rotate_left; (· (go_simp; try with_reducible rfl)); try simp only [Act.put, sA]
 refine lv ?_ 7 (some 12) rfl (fun w => ?_) ?_; rotate_left; (· (go_simp; try with_reducible rfl)); try simp only [Act.put, sA]
 refine lr (.int .i64 (a : Int)) 8 (some 13) rfl (fun w hSw => ?_) hHeld ?_
 · have q0 := hSw.cell 0; have q1 := hSw.cell 1; have q2 := hSw.cell 2; (go_simp; try with_reducible rfl)
 try simp only [Act.put, sA]
 refine lv ?_ 12 (some 17) rfl (fun w => ?_) ?_; rotate_left; (· (go_simp; try with_reducible rfl)); try simp only [Act.put, sA]
 refine lv ?_ 13 (some 18) rfl (fun w => ?_) ?_; rotate_left; (· (go_simp; try with_reducible rfl)); try simp only [Act.put, sA]
 refine lv ?_ 14 (some 19) rfl (fun w => ?_) ?_; rotate_left; (· (go_simp; try with_reducible rfl)); try simp only [Act.put, sA]
 refine lr (.int .i64 (y : Int)) 15 (some 20) rfl (fun w hSw => ?_) hHeld ?_
 · have q0 := hSw.cell 0; have q1 := hSw.cell 1; have q2 := hSw.cell 2; (go_simp; try with_reducible rfl)
 try simp only [Act.put, sA]
 refine lt_one 9 rfl (by kernel_rfl) rfl (fun K hK => ?_)
 go_simp
 refine (HD.out.2 _).mono ?_
 rintro e w2 ⟨rfl, rfl⟩
 go_wp2_with fail
 refine hK.out _ _ (fun _ h => h) ?_
 clear hK K
 try simp only [Act.put, sA]
 refine lv (.string (s ++ sAt ++ d)) 10 (some 15) rfl (fun w => ?_) ?_; (· (have hq : sAt.size = 4 := rfl; have hq2 : sColon.size = 2 := rfl; go_simp; first | done | omega | (rw [if_neg (by omega)]; rfl) | rfl)); try simp only [Act.put, sA]
 refine lv (.string (s ++ sAt ++ d ++ sColon)) 11 (some 16) rfl (fun w => ?_) ?_; (· (have hq : sAt.size = 4 := rfl; have hq2 : sColon.size = 2 := rfl; go_simp; first | done | omega | (rw [if_neg (by omega)]; rfl) | rfl)); try simp only [Act.put, sA]
 refine lt_one 16 rfl (by kernel_rfl) rfl (fun K hK => ?_)
 go_simp
 refine (HE.out _).mono ?_
 rintro e w3 ⟨rfl, rfl⟩
 go_wp2_with fail
 refine hK.out _ _ (fun _ h => h) ?_
 clear hK K
 try simp only [Act.put, sA]
 refine lv (.string (s ++ sAt ++ d ++ sColon ++ x)) 17 (some 22) rfl (fun w => ?_) ?_; (· (have hq : sAt.size = 4 := rfl; have hq2 : sColon.size = 2 := rfl; go_simp; first | done | omega | (rw [if_neg (by omega)]; rfl) | rfl)); try simp only [Act.put, sA]
 refine lv ?_ 18 (some 2) rfl (fun w => ?_) ?_; rotate_left; (· (go_simp; try with_reducible rfl)); try simp only [Act.put, sA]
 refine lt_done (by kernel_rfl) ?_ _
 go_wp2_with fail
 go_ret
 exact ⟨rfl, C1⟩
end Go.Proofs.YtgjclegpnbjlkaaGreatDoor

set_option linter.all false
namespace Go.Proofs.YtgjclegpnbjlkaaGreatDoor
set_option maxHeartbeats 8000000
set_option maxRecDepth 100000
open Go.RowKit
theorem rFltInfo : (Tryz.prog.info? 59).map (·.size) = some 3 := by kernel_rfl
def ftC (s : ByteArray) (a y : Nat) : Array Value := #[.string s, .int .i64 (a : Int), .int .i64 (y : Int)]
theorem fault_s (g : Nat) (s d t : ByteArray) (a y : Nat) (hs : s.size ≤ 1000) (hd : ItA a d) (ht : ItA y t) (hdc : ∀ W, Calls Tryz.prog 40 #[.int .i64 (a : Int)] W fun e w' => e = .returned (.string d) ∧ Chg W w' [])
   (hn : ∀ W, Calls Tryz.prog 35 #[.agg (ftC s a y)] W fun e w' => e = .returned (.bool false) ∧ Chg W w' []) (w : World) (h : Blk w g (ftC s a y) 109) :
   Calls Tryz.prog 11 #[.iface 106 (.pointer (some ⟨g, 0, none⟩)), .agg (ftC s a y)] w fun e w' => e = .returned (.bool true) ∧ Chg w w' [] := by
 have HN : Hid (∀ W, Calls Tryz.prog 35 #[.agg (ftC s a y)] W fun e w' => e = .returned (.bool false) ∧ Chg W w' []) := hn
 have HDC : Hid (∀ W, Calls Tryz.prog 40 #[.int .i64 (a : Int)] W fun e w' => e = .returned (.string d) ∧ Chg W w' []) := hdc
 have HIS : Hid (∀ W, Blk W g (ftC s a y) 109 → Calls Tryz.prog 38 #[.iface 106 (.pointer (some ⟨g, 0, none⟩)), .iface 33 (.int .i64 (y : Int))] W fun e w' => e = .returned (.bool true) ∧ w' = W) := fun W h => Is_s g s (a : Int) (y : Int) W h
 have HFE : Hid (∀ W, Blk W g (ftC s a y) 109 → Calls Tryz.prog 39 #[.pointer (some ⟨g, 0, none⟩)] W fun e w' => e = .returned (.string (ftx s d t)) ∧ Chg W w' []) := fun W h => FaultError_s g s d t a y hs hd ht W h
 have HEE : Hid (∀ W, Calls Tryz.prog 41 #[.int .i64 (y : Int)] W fun e w' => e = .returned (.string (sRime ++ t)) ∧ w' = W) := fun W => ErrnoError_s y t ht W
 have hx : (sRime ++ t).size ≤ 1005 := by have := ht.1; rw [ByteArray.size_append]; show 5 + t.size ≤ 1005; omega
 have hd1 := hd.1
 obtain ⟨x, hX⟩ : ∃ x, sRime ++ t = x := ⟨_, rfl⟩
 have HF0 : ftx s d t = s ++ sAt ++ d ++ sColon ++ x := by rw [← hX]; rfl
 obtain ⟨T, hT⟩ : ∃ T, ftx s d t = T := ⟨_, rfl⟩
 rw [hT] at HFE HF0
 have HF : Hid (T = s ++ sAt ++ d ++ sColon ++ x) := HF0
 rw [hX] at HEE hx
 have n1 : ¬ 9223372036854775807 < s.size + 4 := by omega
 have n2 : ¬ 9223372036854775807 < s.size + 4 + d.size := by omega
 have n3 : ¬ 9223372036854775807 < s.size + 4 + d.size + 2 := by omega
 have n4 : ¬ 9223372036854775807 < s.size + 4 + d.size + 2 + x.size := by omega
 have HB : Hid (Blk w g (ftC s a y) 109) := h
 have hta := flt_is (.pointer (some ⟨g, 0, none⟩))
 clear hs hd ht hX hx hd1 h hn hdc HF0 hT
 go_enter Tryz.func11, Tryz.ntmps11
 go_wp2_with (first
   | (refine wpList_load_row rfl 59 _ rfl bb rfl 59 _ (0, 0) _ BB Tryz.underlying59 rfl rFltInfo ?_)
   | (refine box_w rfl 59 _ rfl (ftC s a y) rfl ?_; intro bb w1 hbb BB k1))
 refine (HN.out w1).mono ?_
 rintro e w2 ⟨rfl, k2⟩
 have C2 := k1.trans1 k2
 have BB2 := BB.chg k2 (by simp)
 have BF2 := HB.out.chg C2 (by simp)
 clear k1 k2 BB hbb
 go_wp2_with fail
 refine lt_begin (fun w' => Blk w' g (ftC s a y) 109 ∧ Blk w' bb (ftC s a y) 59) (fun _ => false) (by kernel_rfl) ?_
 have hHeld : Blk w2.drew g (ftC s a y) 109 ∧ Blk w2.drew bb (ftC s a y) 59 := ⟨BF2.drew, BB2.drew⟩
 have C3 := C2.drew
 obtain ⟨z, hz⟩ : ∃ z, z = w2.drew := ⟨_, rfl⟩
 rw [← hz] at hHeld C3 ⊢
 clear hz C2 BB2 BF2
 refine lv ?_ 0 (some 22) rfl (fun w => ?_) ?_; rotate_left; (· (go_simp; try with_reducible rfl)); try simp only [Act.put, sA]
 refine lv ?_ 1 (some 23) rfl (fun w => ?_) ?_; rotate_left; (· (go_simp; try with_reducible rfl)); try simp only [Act.put, sA]
 refine lv ?_ 2 (some 24) rfl (fun w => ?_) ?_; rotate_left; (· (go_simp; try with_reducible rfl)); try simp only [Act.put, sA]
 refine lr (.string s) 3 (some 25) rfl (fun w hSw => ?_) hHeld ?_
 · have q0 := hSw.1.cell 0; have q1 := hSw.1.cell 1; have q2 := hSw.1.cell 2; have p0 := hSw.2.cell 0; have p1 := hSw.2.cell 1; have p2 := hSw.2.cell 2; simp only [ftC] at q0 q1 q2 p0 p1 p2; (go_simp; try with_reducible rfl)
 try simp only [Act.put, sA]
 refine lv ?_ 4 (some 26) rfl (fun w => ?_) ?_; rotate_left; (· (go_simp; try with_reducible rfl)); try simp only [Act.put, sA]
 refine lr (.string s) 5 (some 27) rfl (fun w hSw => ?_) hHeld ?_
 · have q0 := hSw.1.cell 0; have q1 := hSw.1.cell 1; have q2 := hSw.1.cell 2; have p0 := hSw.2.cell 0; have p1 := hSw.2.cell 1; have p2 := hSw.2.cell 2; simp only [ftC] at q0 q1 q2 p0 p1 p2; (go_simp; try with_reducible rfl)
 try simp only [Act.put, sA]
 refine lv (.bool true) 6 (some 28) rfl (fun w => ?_) ?_; (· (go_simp; try with_reducible rfl)); try simp only [Act.put, sA]
 refine lv (.bool true) 7 (some 29) rfl (fun w => ?_) ?_; (· (go_simp; try with_reducible rfl)); try simp only [Act.put, sA]
 refine lv ?_ 8 (some 30) rfl (fun w => ?_) ?_; rotate_left; (· (go_simp; try with_reducible rfl)); try simp only [Act.put, sA]
 refine lv ?_ 9 (some 31) rfl (fun w => ?_) ?_; rotate_left; (· (go_simp; try with_reducible rfl)); try simp only [Act.put, sA]
 refine lv ?_ 10 (some 32) rfl (fun w => ?_) ?_; rotate_left; (· (go_simp; try with_reducible rfl)); try simp only [Act.put, sA]
 refine lr (.int .i64 (a : Int)) 11 (some 33) rfl (fun w hSw => ?_) hHeld ?_
 · have q0 := hSw.1.cell 0; have q1 := hSw.1.cell 1; have q2 := hSw.1.cell 2; have p0 := hSw.2.cell 0; have p1 := hSw.2.cell 1; have p2 := hSw.2.cell 2; simp only [ftC] at q0 q1 q2 p0 p1 p2; (go_simp; try with_reducible rfl)
 try simp only [Act.put, sA]
 refine lv ?_ 12 (some 34) rfl (fun w => ?_) ?_; rotate_left; (· (go_simp; try with_reducible rfl)); try simp only [Act.put, sA]
 refine lr (.int .i64 (a : Int)) 13 (some 35) rfl (fun w hSw => ?_) hHeld ?_
 · have q0 := hSw.1.cell 0; have q1 := hSw.1.cell 1; have q2 := hSw.1.cell 2; have p0 := hSw.2.cell 0; have p1 := hSw.2.cell 1; have p2 := hSw.2.cell 2; simp only [ftC] at q0 q1 q2 p0 p1 p2; (go_simp; try with_reducible rfl)
 try simp only [Act.put, sA]
 refine lv (.bool true) 14 (some 36) rfl (fun w => ?_) ?_; (· (go_simp; try with_reducible rfl)); try simp only [Act.put, sA]
 refine lv (.bool true) 15 (some 37) rfl (fun w => ?_) ?_; (· (go_simp; try with_reducible rfl)); try simp only [Act.put, sA]
 refine lv (.bool true) 16 (some 38) rfl (fun w => ?_) ?_; (· (go_simp; try with_reducible rfl)); try simp only [Act.put, sA]
 refine lv ?_ 17 (some 39) rfl (fun w => ?_) ?_; rotate_left; (· (go_simp; try with_reducible rfl)); try simp only [Act.put, sA]
 refine lv ?_ 18 (some 40) rfl (fun w => ?_) ?_; rotate_left; (· (go_simp; try with_reducible rfl)); try simp only [Act.put, sA]
 refine lv ?_ 19 (some 41) rfl (fun w => ?_) ?_; rotate_left; (· (go_simp; try with_reducible rfl)); try simp only [Act.put, sA]
 refine lr (.int .i64 (y : Int)) 20 (some 42) rfl (fun w hSw => ?_) hHeld ?_
 · have q0 := hSw.1.cell 0; have q1 := hSw.1.cell 1; have q2 := hSw.1.cell 2; have p0 := hSw.2.cell 0; have p1 := hSw.2.cell 1; have p2 := hSw.2.cell 2; simp only [ftC] at q0 q1 q2 p0 p1 p2; (go_simp; try with_reducible rfl)
 try simp only [Act.put, sA]
 refine lv ?_ 21 (some 43) rfl (fun w => ?_) ?_; rotate_left; (· (go_simp; try with_reducible rfl)); try simp only [Act.put, sA]
 refine lr (.int .i64 (y : Int)) 22 (some 44) rfl (fun w hSw => ?_) hHeld ?_
 · have q0 := hSw.1.cell 0; have q1 := hSw.1.cell 1; have q2 := hSw.1.cell 2; have p0 := hSw.2.cell 0; have p1 := hSw.2.cell 1; have p2 := hSw.2.cell 2; simp only [ftC] at q0 q1 q2 p0 p1 p2; (go_simp; try with_reducible rfl)
 try simp only [Act.put, sA]
 refine lv (.bool true) 23 (some 45) rfl (fun w => ?_) ?_; (· (go_simp; try with_reducible rfl)); try simp only [Act.put, sA]
 refine lv (.bool true) 24 (some 46) rfl (fun w => ?_) ?_; (· (go_simp; try with_reducible rfl)); try simp only [Act.put, sA]
 refine lv (.bool true) 25 (some 47) rfl (fun w => ?_) ?_; (· (go_simp; try with_reducible rfl)); try simp only [Act.put, sA]
 refine lv ?_ 26 (some 48) rfl (fun w => ?_) ?_; rotate_left; (· (go_simp; try with_reducible rfl)); try simp only [Act.put, sA]
 refine lv ?_ 27 (some 49) rfl (fun w => ?_) ?_; rotate_left; (· (go_simp; try with_reducible rfl)); try simp only [Act.put, sA]
 refine lv ?_ 28 (some 50) rfl (fun w => ?_) ?_; rotate_left; (· (go_simp; try with_reducible rfl)); try simp only [Act.put, sA]
 refine lv ?_ 29 (some 51) rfl (fun w => ?_) ?_; rotate_left; (· (go_simp; try with_reducible rfl)); try simp only [Act.put, sA]
 refine lr (.int .i64 (y : Int)) 30 (some 52) rfl (fun w hSw => ?_) hHeld ?_
 · have q0 := hSw.1.cell 0; have q1 := hSw.1.cell 1; have q2 := hSw.1.cell 2; have p0 := hSw.2.cell 0; have p1 := hSw.2.cell 1; have p2 := hSw.2.cell 2; simp only [ftC] at q0 q1 q2 p0 p1 p2; (go_simp; try with_reducible rfl)
 try simp only [Act.put, sA]
 refine lv (.iface 33 (.int .i64 (y : Int))) 31 (some 53) rfl (fun w => ?_) ?_; (· (go_simp; try with_reducible rfl)); try simp only [Act.put, sA]
 refine lt_one 32 rfl (by kernel_rfl) rfl (fun K hK => ?_)
 go_simp
 refine (HIS.out _ hHeld.1).mono ?_
 rintro e w3 ⟨rfl, rfl⟩
 go_wp2_with fail
 refine hK.out _ _ (fun _ h => h) ?_
 clear hK K
 try simp only [Act.put, sA]
 refine lv (.bool true) 33 (some 55) rfl (fun w => ?_) ?_; (· (go_simp; try with_reducible rfl)); try simp only [Act.put, sA]
 refine lv (.bool true) 34 (some 56) rfl (fun w => ?_) ?_; (· (go_simp; try with_reducible rfl)); try simp only [Act.put, sA]
 refine lv ?_ 35 (some 57) rfl (fun w => ?_) ?_; rotate_left; (· (go_simp; try with_reducible rfl)); try simp only [Act.put, sA]
 refine lv ?_ 37 (some 59) rfl (fun w => ?_) ?_; rotate_left; (· (go_simp; try with_reducible rfl)); try simp only [Act.put, sA]
 refine lr (.string s) 38 (some 60) rfl (fun w hSw => ?_) hHeld ?_
 · have q0 := hSw.1.cell 0; have q1 := hSw.1.cell 1; have q2 := hSw.1.cell 2; have p0 := hSw.2.cell 0; have p1 := hSw.2.cell 1; have p2 := hSw.2.cell 2; simp only [ftC] at q0 q1 q2 p0 p1 p2; (go_simp; try with_reducible rfl)
 try simp only [Act.put, sA]
 refine lv (.string (s ++ sAt)) 39 (some 61) rfl (fun w => ?_) ?_; (· (have hq : sAt.size = 4 := rfl; have hq2 : sColon.size = 2 := rfl; go_simp; first | done | omega | (rw [if_neg (by omega)]; rfl) | rfl)); try simp only [Act.put, sA]
 refine lv ?_ 40 (some 62) rfl (fun w => ?_) ?_; rotate_left; (· (go_simp; try with_reducible rfl)); try simp only [Act.put, sA]
 refine lr (.int .i64 (a : Int)) 41 (some 63) rfl (fun w hSw => ?_) hHeld ?_
 · have q0 := hSw.1.cell 0; have q1 := hSw.1.cell 1; have q2 := hSw.1.cell 2; have p0 := hSw.2.cell 0; have p1 := hSw.2.cell 1; have p2 := hSw.2.cell 2; simp only [ftC] at q0 q1 q2 p0 p1 p2; (go_simp; try with_reducible rfl)
 try simp only [Act.put, sA]
 refine lv ?_ 45 (some 67) rfl (fun w => ?_) ?_; rotate_left; (· (go_simp; try with_reducible rfl)); try simp only [Act.put, sA]
 refine lv ?_ 46 (some 68) rfl (fun w => ?_) ?_; rotate_left; (· (go_simp; try with_reducible rfl)); try simp only [Act.put, sA]
 refine lv ?_ 47 (some 69) rfl (fun w => ?_) ?_; rotate_left; (· (go_simp; try with_reducible rfl)); try simp only [Act.put, sA]
 refine lr (.int .i64 (y : Int)) 48 (some 70) rfl (fun w hSw => ?_) hHeld ?_
 · have q0 := hSw.1.cell 0; have q1 := hSw.1.cell 1; have q2 := hSw.1.cell 2; have p0 := hSw.2.cell 0; have p1 := hSw.2.cell 1; have p2 := hSw.2.cell 2; simp only [ftC] at q0 q1 q2 p0 p1 p2; (go_simp; try with_reducible rfl)
 try simp only [Act.put, sA]
 refine lt_one 36 rfl (by kernel_rfl) rfl (fun K hK => ?_)
 go_simp
 refine (HFE.out _ hHeld.1).mono ?_
 rintro e w4 ⟨rfl, k4⟩
 go_wp2_with fail
 refine hK.out _ _ (fun _ h => ⟨h.1.chg k4 (by simp), h.2.chg k4 (by simp)⟩) ?_
 replace hHeld := And.intro (hHeld.1.chg k4 (by simp)) (hHeld.2.chg k4 (by simp))
 have C4 := C3.trans1 k4
 clear C3 k4
 clear hK K
 try simp only [Act.put, sA]
 refine lt_one 42 rfl (by kernel_rfl) rfl (fun K hK => ?_)
 go_simp
 refine (HDC.out _).mono ?_
 rintro e w5 ⟨rfl, k5⟩
 go_wp2_with fail
 refine hK.out _ _ (fun _ h => ⟨h.1.chg k5 (by simp), h.2.chg k5 (by simp)⟩) ?_
 replace hHeld := And.intro (hHeld.1.chg k5 (by simp)) (hHeld.2.chg k5 (by simp))
 have C5 := C4.trans1 k5
 clear C4 k5
 clear hK K
 try simp only [Act.put, sA]
 refine lv (.string (s ++ sAt ++ d)) 43 (some 65) rfl (fun w => ?_) ?_; (· (have hq : sAt.size = 4 := rfl; have hq2 : sColon.size = 2 := rfl; go_simp; first | done | omega | (rw [if_neg (by omega)]; rfl) | rfl)); try simp only [Act.put, sA]
 refine lv (.string (s ++ sAt ++ d ++ sColon)) 44 (some 66) rfl (fun w => ?_) ?_; (· (have hq : sAt.size = 4 := rfl; have hq2 : sColon.size = 2 := rfl; go_simp; first | done | omega | (rw [if_neg (by omega)]; rfl) | rfl)); try simp only [Act.put, sA]
 refine lt_one 49 rfl (by kernel_rfl) rfl (fun K hK => ?_)
 go_simp
 refine (HEE.out _).mono ?_
 rintro e w6 ⟨rfl, rfl⟩
 go_wp2_with fail
 refine hK.out _ _ (fun _ h => h) ?_
 clear hK K
 try simp only [Act.put, sA]
 refine lv (.string T) 50 (some 72) rfl (fun w => ?_) ?_; (· (rw [HF.out]; have hq : sAt.size = 4 := rfl; have hq2 : sColon.size = 2 := rfl; go_simp; first | done | omega | (rw [if_neg (by omega)]; rfl) | rfl)); try simp only [Act.put, sA]
 refine lv (.bool true) 51 (some 73) rfl (fun w => ?_) ?_; (· (go_simp; try with_reducible rfl)); try simp only [Act.put, sA]
 refine lv (.bool true) 52 (some 74) rfl (fun w => ?_) ?_; (· (go_simp; try with_reducible rfl)); try simp only [Act.put, sA]
 refine lv ?_ 53 (some 4) rfl (fun w => ?_) ?_; rotate_left; (· (go_simp; try with_reducible rfl)); try simp only [Act.put, sA]
 refine lt_done (by kernel_rfl) ?_ _
 go_wp2_with fail
 go_ret
 exact ⟨rfl, C5⟩
theorem none_frame (a y : Nat) (w : World) : Calls Tryz.prog 35 #[.agg (ftC sFrame a y)] w fun e w' => e = .returned (.bool false) ∧ Chg w w' [] := by
 go_enter Tryz.func35, Tryz.ntmps35
 go_wp2_with (first
   | (refine box_w rfl 59 _ rfl (ftC sFrame a y) rfl ?_; intro bb w1 hbb BB k1; have c0 := BB.cell 0; simp only [ftC, sFrame] at c0))
 go_ret
 exact ⟨rfl, k1⟩
end Go.Proofs.YtgjclegpnbjlkaaGreatDoor
