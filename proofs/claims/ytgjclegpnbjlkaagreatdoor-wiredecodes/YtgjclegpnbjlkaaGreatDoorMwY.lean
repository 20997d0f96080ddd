/- Joined: W53, WEn0. -/
import Derived.Test.YtgjclegpnbjlkaaGreatDoorMxF
import Derived.Test.YtgjclegpnbjlkaaGreatDoorMwF
import Derived.Test.YtgjclegpnbjlkaaGreatDoorMxH
import Derived.Test.YtgjclegpnbjlkaaGreatDoorMwG
set_option linter.all false
namespace Go.Proofs.YtgjclegpnbjlkaaGreatDoor
open Go.RowKit
theorem fault_any (w0 : World) (hP : Pw w0) (g : Nat) (s : ByteArray) (a y : Nat) (hs : s.size ≤ 1000) (hs0 : s.toList ≠ s0E.toList) (ha : a ≤ 9223372036854775807) (hy : y ≤ 9223372036854775807) (w : World) (hw : Chg w0 w []) (h : Blk w g (ftC s a y) 109) :
   Calls Tryz.prog 11 #[.iface 106 (.pointer (some ⟨g, 0, none⟩)), .agg (ftC s a y)] w fun e w' => e = .returned (.bool true) ∧ Chg w w' [] :=
 fault_g w0 g s (dgS a) (dgS y) a y hs (itg hP a ha) (itg hP y hy) (fun W => dec_g a a (Nat.le_refl _) ha W) (fun W => None_f s a y hs0 W) w hw h
theorem EnP.ne {m : Ms} {N : Nat} {d : Nat → Int} {M : Nat} {s : ByteArray} {a y : Nat} (h : EnP m N d M s a y) : s.toList ≠ s0E.toList := by
 rcases h with ⟨_, rfl, _⟩ | ⟨_, _, rfl, _⟩ | ⟨_, _, _, rfl, _⟩ | ⟨_, _, _, ⟨_, _, rfl, _⟩ | ⟨_, ⟨_, rfl, _⟩ | ⟨_, _, _, _, rfl, _⟩ | ⟨_, _, _, rfl, _⟩⟩ | ⟨_, _, rfl, _⟩⟩ <;> exact ne_s0 (List.cons_ne_nil _ _)
theorem Same0 (w : World) : Calls Tryz.prog 19 #[.agg (msC (ms0 0)), .agg (msC (ms0 0))] w fun e w' => e = .returned (.bool true) ∧ Chg w w' [] :=
 SameMsg_t (ms0 0) 0 (fun _ => 0) (fun _ _ => 0) (fun _ _ => 0) 0 (fun _ => 0) (ms0 0) 0 (fun _ => 0) (fun _ _ => 0) (fun _ _ => 0) 0 (fun _ => 0) w
   ⟨⟨cF_ok 0 _ _ _, Or.inl ⟨rfl, rfl⟩⟩, fun i hi => by omega⟩ (Sl.zb (Or.inl ⟨rfl, rfl⟩)) ⟨⟨cF_ok 0 _ _ _, Or.inl ⟨rfl, rfl⟩⟩, fun i hi => by omega⟩ (Sl.zb (Or.inl ⟨rfl, rfl⟩)) (by kernel_rfl)
theorem builtM0 : Tryz.prog.built 35 [] = some (msC (ms0 0)) := by kernel_rfl
end Go.Proofs.YtgjclegpnbjlkaaGreatDoor

set_option linter.all false
namespace Go.Proofs.YtgjclegpnbjlkaaGreatDoor
set_option maxHeartbeats 4000000
set_option maxRecDepth 100000
open Go.RowKit
theorem fault_nil (a y : Nat) (w : World) : Calls Tryz.prog 11 #[.nilIface, .agg (ftC s0E a y)] w fun e w' => e = .returned (.bool true) ∧ Chg w w' [] := by
 obtain ⟨C, hC⟩ : ∃ C, ftC s0E a y = C := ⟨_, rfl⟩
 have HN : Hid (∀ W, Calls Tryz.prog 35 #[.agg C] W fun e w' => e = .returned (.bool true) ∧ Chg W w' []) := fun W => hC ▸ None_0 a y W
 have HS : Hid (C.size = 3) := by rw [← hC]; rfl
 rw [hC]
 clear hC
 go_enter Tryz.func11, Tryz.ntmps11
 go_wp2_with (first
   | (refine box_w rfl 59 _ rfl C rfl ?_; intro bb w1 hbb BB k1)
   | (refine wpList_load_row rfl 59 _ rfl bb rfl 59 _ (0, 0) _ BB Tryz.underlying59 rfl (by rw [HS.out]; exact rFltInfo) ?_))
 refine (HN.out w1).mono ?_
 rintro e w2 ⟨rfl, k2⟩
 have K2 := k1.trans1 k2
 go_wp2_with fail
 go_ret
 exact ⟨rfl, K2⟩
theorem load_rowg {ops : Array Oper} {rest : List Oper} {op : Oper} {a : Act} {w : World} {Q : Exit → Act → World → Prop} (hw : Region.wanted op (yielded ops a.tmps) = true) (x : Operand) (ho : op.op = .load 59 x)
   (g : Nat) (hx : a.eval x = .pointer (some ⟨g, 0, none⟩)) (cs : Array Value) (B : Blk w g cs 59) (hs : cs.size = 3)
   (h : wpList Tryz.prog ops Q rest (a.put op.dst (.agg cs)) w) : wpList Tryz.prog ops Q (op :: rest) a w :=
 load_gm hw 59 x ho g 0 hx cs.toList (fun j v hv => by rw [Nat.zero_add, B.cell]; simpa using hv) Tryz.underlying59 rfl (by rw [Array.length_toList, hs]; exact rFltInfo) (by simpa using h)
theorem EnP.le {m : Ms} {N : Nat} {d : Nat → Int} {M : Nat} {s : ByteArray} {a y : Nat} (h : EnP m N d M s a y) : s.size ≤ 1000 ∧ a ≤ 255 ∧ y ≤ 255 := by
 rcases h with ⟨_, rfl, rfl, rfl⟩ | ⟨_, _, rfl, rfl, rfl⟩ | ⟨_, _, _, rfl, rfl, rfl⟩ | ⟨_, _, _, ⟨_, _, rfl, rfl, rfl⟩ | ⟨_, ⟨_, rfl, rfl, rfl⟩ | ⟨_, _, _, _, rfl, rfl⟩ | ⟨_, _, _, rfl, rfl, rfl⟩⟩ | ⟨_, _, rfl, rfl, rfl⟩⟩ <;> refine ⟨by decide, by omega, by omega⟩
theorem EnP.det {m : Ms} {N : Nat} {d : Nat → Int} {M : Nat} {s s' : ByteArray} {a y a' y' : Nat} (h : EnP m N d M s a y) (h' : EnP m N d M s' a' y') : s = s' ∧ a = a' ∧ y = y' := by
 rcases h with ⟨k, rfl, rfl, rfl⟩ | ⟨k1, k, rfl, rfl, rfl⟩ | ⟨k1, k2, k, rfl, rfl, rfl⟩ | ⟨k1, k2, k3, q⟩
 · rcases h' with ⟨_, rfl, rfl, rfl⟩ | ⟨j, _⟩ | ⟨j, _⟩ | ⟨j, _⟩
   · exact ⟨rfl, rfl, rfl⟩
   all_goals exact absurd j k
 · rcases h' with ⟨j, _⟩ | ⟨_, _, rfl, rfl, rfl⟩ | ⟨_, j, _⟩ | ⟨_, j, _⟩
   · exact absurd k1 j
   · exact ⟨rfl, rfl, rfl⟩
   all_goals exact absurd j k
 · rcases h' with ⟨j, _⟩ | ⟨_, j, _⟩ | ⟨_, _, _, rfl, rfl, rfl⟩ | ⟨_, _, j, _⟩
   · exact absurd k1 j
   · exact absurd k2 j
   · exact ⟨rfl, rfl, rfl⟩
   · exact absurd j k
 · rcases h' with ⟨j, _⟩ | ⟨_, j, _⟩ | ⟨_, _, j, _⟩ | ⟨_, _, _, q'⟩
   · exact absurd k1 j
   · exact absurd k2 j
   · exact absurd k3 j
   · rcases q with ⟨e, _, rfl, rfl, rfl⟩ | ⟨e, q⟩ | ⟨e, _, rfl, rfl, rfl⟩
     · rcases q' with ⟨_, _, rfl, rfl, rfl⟩ | ⟨e', _⟩ | ⟨e', _⟩
       · exact ⟨rfl, rfl, rfl⟩
       · omega
       · omega
     · rcases q' with ⟨e', _⟩ | ⟨_, q'⟩ | ⟨e', _⟩
       · omega
       · rcases q with ⟨g, rfl, rfl, rfl⟩ | ⟨g, g2, g3, g4, rfl, rfl⟩ | ⟨g, g2, g3, rfl, rfl, rfl⟩
         · rcases q' with ⟨_, rfl, rfl, rfl⟩ | ⟨j, _⟩ | ⟨j, _⟩
           · exact ⟨rfl, rfl, rfl⟩
           · omega
           · omega
         · rcases q' with ⟨j, _⟩ | ⟨_, j2, j3, j4, rfl, rfl⟩ | ⟨_, j2, _⟩
           · omega
           · refine ⟨rfl, ?_, rfl⟩
             rcases Nat.lt_trichotomy a a' with h | h | h
             · exact absurd (j4 a h) g3
             · exact h
             · exact absurd (g4 a' h) j3
           · exact absurd (j2 a g2) g3
         · rcases q' with ⟨j, _⟩ | ⟨_, j2, j3, _⟩ | ⟨_, _, _, rfl, rfl, rfl⟩
           · omega
           · exact absurd (g2 a' j2) j3
           · exact ⟨rfl, rfl, rfl⟩
       · omega
     · rcases q' with ⟨e', _⟩ | ⟨e', _⟩ | ⟨_, _, rfl, rfl, rfl⟩
       · omega
       · omega
       · exact ⟨rfl, rfl, rfl⟩
end Go.Proofs.YtgjclegpnbjlkaaGreatDoor
