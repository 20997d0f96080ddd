/- wire: the reader's end; a word. -/
import Derived.Test.YtjppbngimacgnaaGreatDoorW14
import Derived.Laws.Cover3
set_option linter.unusedVariables false
set_option linter.unusedSimpArgs false
set_option linter.unnecessarySimpa false
namespace Go.Proofs.YtjppbngimacgnaaGreatDoor
open Go.RowKit

def sTail : ByteArray := ⟨#[116, 97, 105, 108]⟩
set_option maxHeartbeats 4000000 in
set_option maxRecDepth 100000 in
theorem end_ok (r n c : Nat) (p : Option Addr) (b : Int) (s : ByteArray) (w : World) (h : Rd w r (.slice p n c) (n : Int) s b) :
    Calls Tryz.prog 71 #[.pointer (some ⟨r, 0, none⟩)] w fun e w' => e = .returned (.tuple #[]) ∧ Rd w' r (.slice p n c) (n : Int) sTail (n : Int) ∧ Chg w w' [r] := by
  have q := begin_s r _ _ b s sTail w h
  have hl : ¬ (n : Int) < (n : Int) := by omega
  clear h
  go_enter Tryz.func71, Tryz.ntmps71
  go_wp2_with fail
  refine q.mono ?_
  rintro e w2 ⟨rfl, h2, k2⟩
  have c0 := h2.c0
  have c1 := h2.c1
  go_wp2_with fail
  go_quiet (fail)
  go_wp2_with fail
  go_end0
  exact ⟨rfl, Blk.drewN h2 _, k2.drewN _⟩
set_option maxHeartbeats 4000000 in
set_option maxRecDepth 100000 in
theorem end_gu (r n c a : Nat) (p : Option Addr) (b : Int) (s : ByteArray) (ha : a < n) (w : World) (h : Rd w r (.slice p n c) (a : Int) s b) :
    Calls Tryz.prog 71 #[.pointer (some ⟨r, 0, none⟩)] w fun e w' => Gu w.heap.size sTail (a : Int) 104 e w' ∧ Chg w w' [r] := by
  have q := begin_s r _ _ b s sTail w h
  have hl : (a : Int) < (n : Int) := by omega
  clear h ha
  go_enter Tryz.func71, Tryz.ntmps71
  go_wp2_with fail
  refine q.mono ?_
  rintro e w2 ⟨rfl, h2, k2⟩
  have c0 := h2.c0
  have c1 := h2.c1
  have HR : Hid (Rd w2 r (.slice p n c) (a : Int) sTail (a : Int)) := h2
  go_wp2_with fail
  go_quiet (fail)
  go_wp2_with fail
  refine (wrong_s r _ _ (a : Int) 104 sTail _ (Blk.drewN HR.out _)).mono ?_
  rintro e w5 ⟨⟨v5, rfl, hf⟩, k5⟩
  exact ⟨rfl, ⟨v5, rfl, hf.lw k2.size⟩, (k2.drewN _).trans1 k5.wide⟩
end Go.Proofs.YtjppbngimacgnaaGreatDoor
