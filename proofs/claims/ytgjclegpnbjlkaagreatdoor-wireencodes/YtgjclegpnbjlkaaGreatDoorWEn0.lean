/- rimelaw10.fault of no fault; a message's first fault is one. -/
import Derived.Test.YtgjclegpnbjlkaaGreatDoorMwY
set_option linter.unusedVariables false
set_option linter.unusedSimpArgs false
set_option linter.unnecessarySimpa false
namespace Go.Proofs.YtgjclegpnbjlkaaGreatDoor
open Go.RowKit

set_option maxHeartbeats 4000000 in
set_option maxRecDepth 100000 in
theorem fault_nil (a y : Nat) (w : World) : Calls Tryz.prog 11 #[.nilIface, .agg (ftC s0E a y)] w fun e w' => e = .returned (.bool true) ∧ Chg w w' [] := by
  obtain ⟨C, hC⟩ : ∃ C, ftC s0E a y = C := ⟨_, rfl⟩
  have HN : Hid (∀ W, Calls Tryz.prog 35 #[.agg C] W fun e w' => e = .returned (.bool true) ∧ Chg W w' []) := fun W => hC ▸ None_0 a y W
  have HS : Hid (C.size = 3) := by rw [← hC]; rfl
  rw [hC]
  clear hC
  go_enter Tryz.func11, Tryz.ntmps11
  go_wp2_with (first
    | (refine box_w rfl 59 _ rfl C rfl ?_; intro bb w1 hbb BB k1)
    | (refine wpList_load_row rfl 59 _ rfl bb rfl 59 _ (0, 0) _ BB Tryz.underlying59 rfl (by rw [HS.out]; exact rFltInfo) ?_))
  refine (HN.out w1).mono ?_
  rintro e w2 ⟨rfl, k2⟩
  have K2 := k1.trans1 k2
  go_wp2_with fail
  go_ret
  exact ⟨rfl, K2⟩
theorem load_rowg {ops : Array Oper} {rest : List Oper} {op : Oper} {a : Act} {w : World} {Q : Exit → Act → World → Prop} (hw : Region.wanted op (yielded ops a.tmps) = true) (x : Operand) (ho : op.op = .load 59 x)
    (g : Nat) (hx : a.eval x = .pointer (some ⟨g, 0, none⟩)) (cs : Array Value) (B : Blk w g cs 59) (hs : cs.size = 3)
    (h : wpList Tryz.prog ops Q rest (a.put op.dst (.agg cs)) w) : wpList Tryz.prog ops Q (op :: rest) a w :=
  load_gm hw 59 x ho g 0 hx cs.toList (fun j v hv => by rw [Nat.zero_add, B.cell]; simpa using hv) Tryz.underlying59 rfl (by rw [Array.length_toList, hs]; exact rFltInfo) (by simpa using h)
theorem EnP.le {m : Ms} {N : Nat} {d : Nat → Int} {M : Nat} {s : ByteArray} {a y : Nat} (h : EnP m N d M s a y) : s.size ≤ 1000 ∧ a ≤ 255 ∧ y ≤ 255 := by
  rcases h with ⟨_, rfl, rfl, rfl⟩ | ⟨_, _, rfl, rfl, rfl⟩ | ⟨_, _, _, rfl, rfl, rfl⟩ | ⟨_, _, _, ⟨_, _, rfl, rfl, rfl⟩ | ⟨_, ⟨_, rfl, rfl, rfl⟩ | ⟨_, _, _, _, rfl, rfl⟩ | ⟨_, _, _, rfl, rfl, rfl⟩⟩ | ⟨_, _, rfl, rfl, rfl⟩⟩ <;> refine ⟨by decide, by omega, by omega⟩
theorem EnP.det {m : Ms} {N : Nat} {d : Nat → Int} {M : Nat} {s s' : ByteArray} {a y a' y' : Nat} (h : EnP m N d M s a y) (h' : EnP m N d M s' a' y') : s = s' ∧ a = a' ∧ y = y' := by
  rcases h with ⟨k, rfl, rfl, rfl⟩ | ⟨k1, k, rfl, rfl, rfl⟩ | ⟨k1, k2, k, rfl, rfl, rfl⟩ | ⟨k1, k2, k3, q⟩
  · rcases h' with ⟨_, rfl, rfl, rfl⟩ | ⟨j, _⟩ | ⟨j, _⟩ | ⟨j, _⟩
    · exact ⟨rfl, rfl, rfl⟩
    all_goals exact absurd j k
  · rcases h' with ⟨j, _⟩ | ⟨_, _, rfl, rfl, rfl⟩ | ⟨_, j, _⟩ | ⟨_, j, _⟩
    · exact absurd k1 j
    · exact ⟨rfl, rfl, rfl⟩
    all_goals exact absurd j k
  · rcases h' with ⟨j, _⟩ | ⟨_, j, _⟩ | ⟨_, _, _, rfl, rfl, rfl⟩ | ⟨_, _, j, _⟩
    · exact absurd k1 j
    · exact absurd k2 j
    · exact ⟨rfl, rfl, rfl⟩
    · exact absurd j k
  · rcases h' with ⟨j, _⟩ | ⟨_, j, _⟩ | ⟨_, _, j, _⟩ | ⟨_, _, _, q'⟩
    · exact absurd k1 j
    · exact absurd k2 j
    · exact absurd k3 j
    · rcases q with ⟨e, _, rfl, rfl, rfl⟩ | ⟨e, q⟩ | ⟨e, _, rfl, rfl, rfl⟩
      · rcases q' with ⟨_, _, rfl, rfl, rfl⟩ | ⟨e', _⟩ | ⟨e', _⟩
        · exact ⟨rfl, rfl, rfl⟩
        · omega
        · omega
      · rcases q' with ⟨e', _⟩ | ⟨_, q'⟩ | ⟨e', _⟩
        · omega
        · rcases q with ⟨g, rfl, rfl, rfl⟩ | ⟨g, g2, g3, g4, rfl, rfl⟩ | ⟨g, g2, g3, rfl, rfl, rfl⟩
          · rcases q' with ⟨_, rfl, rfl, rfl⟩ | ⟨j, _⟩ | ⟨j, _⟩
            · exact ⟨rfl, rfl, rfl⟩
            · omega
            · omega
          · rcases q' with ⟨j, _⟩ | ⟨_, j2, j3, j4, rfl, rfl⟩ | ⟨_, j2, _⟩
            · omega
            · refine ⟨rfl, ?_, rfl⟩
              rcases Nat.lt_trichotomy a a' with h | h | h
              · exact absurd (j4 a h) g3
              · exact h
              · exact absurd (g4 a' h) j3
            · exact absurd (j2 a g2) g3
          · rcases q' with ⟨j, _⟩ | ⟨_, j2, j3, _⟩ | ⟨_, _, _, rfl, rfl, rfl⟩
            · omega
            · exact absurd (g2 a' j2) j3
            · exact ⟨rfl, rfl, rfl⟩
        · omega
      · rcases q' with ⟨e', _⟩ | ⟨e', _⟩ | ⟨_, _, rfl, rfl, rfl⟩
        · omega
        · omega
        · exact ⟨rfl, rfl, rfl⟩
end Go.Proofs.YtgjclegpnbjlkaaGreatDoor
