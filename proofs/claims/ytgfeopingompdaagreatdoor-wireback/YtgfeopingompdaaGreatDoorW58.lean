/- rimelaw10.named of a fault by the page's errors. -/
import Derived.Test.YtgfeopingompdaaGreatDoorAsL
import Derived.Test.YtgfeopingompdaaGreatDoorW24
set_option linter.unusedVariables false
set_option linter.unusedSimpArgs false
set_option linter.unnecessarySimpa false
namespace Go.Proofs.YtgfeopingompdaaGreatDoor
open Go.RowKit

theorem zeroPF : (Tryz.prog.info? 108).bind (·.zero) = some (.pointer none) := by kernel_rfl
/-- The page's errors. -/
def Nmd (y : Nat) : Prop := y = 1 ∨ y = 2 ∨ y = 3 ∨ y = 4 ∨ y = 8 ∨ y = 10 ∨ y = 101 ∨ y = 102 ∨ y = 103 ∨ y = 104 ∨ y = 152
set_option maxHeartbeats 16000000 in
set_option maxRecDepth 100000 in
theorem named_s (y : Nat) (hy : Nmd y) (g : Nat) (s : ByteArray) (a : Nat) (w : World) (hB : Blk w g (ftC s a y) 111) (hs : s.toList ≠ []) (hE : EtG w) :
    Calls Tryz.prog 30 #[.iface 108 (.pointer (some ⟨g, 0, none⟩))] w fun e w' => e = .returned (.bool true) ∧ Chg w w' [] := by
  have hb : s.toList.isEmpty = false := List.isEmpty_eq_false_iff.2 hs
  have ha : ¬ ((a : Nat) : Int) < 0 := by omega
  have HB : Hid (Blk w g (ftC s a y) 111) := hB
  have HE : Hid (EtG w) := hE
  have hta := flt_is (.pointer (some ⟨g, 0, none⟩))
  clear hB hs hE
  rcases hy with rfl | rfl | rfl | rfl | rfl | rfl | rfl | rfl | rfl | rfl | rfl
  all_goals
    go_enter Tryz.func30, Tryz.ntmps30
    go_wp2_with (first
      | (with_reducible refine alloc_w rfl 108 rfl (.pointer none) zeroPF #[.pointer none] rfl ?_; intro xb w1 hxb BX k1))
    refine (As_hit ⟨g, 0, none⟩ xb (.pointer none) w1 (HE.out.chg k1) BX).mono ?_
    rintro e w2 ⟨rfl, BX2, k2⟩
    have K2 := k1.new k2 hxb
    have B2 := HB.out.chg K2 (by simp)
    have x0 := BX2.cell 0
    have q0 := B2.cell 0
    have q1 := B2.cell 1
    have q2 := B2.cell 2
    simp only [ftC] at q0 q1 q2
    have B3 : Hid (Blk w2 g (ftC s a _) 111) := B2
    clear k1 k2 hxb BX B2
    go_wp2_with fail
    refine (Is_s g s (a : Int) _ w2 B3.out).mono ?_
    rintro e w3 ⟨rfl, rfl⟩
    go_wp2_with fail
    go_ret
    exact ⟨rfl, K2⟩
end Go.Proofs.YtgfeopingompdaaGreatDoor
