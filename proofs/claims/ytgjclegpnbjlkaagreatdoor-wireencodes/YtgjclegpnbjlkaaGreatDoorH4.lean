/- The Hasher's cells, copy, fill. -/
import Derived.Test.YtgjclegpnbjlkaaGreatDoorMwL
import Derived.Test.YtgjclegpnbjlkaaGreatDoorMwA
set_option linter.unusedVariables false
set_option linter.unusedSimpArgs false
set_option linter.unnecessarySimpa false
namespace Go.Proofs.YtgjclegpnbjlkaaGreatDoor
open Go.RowKit

/-! ### fill -/
/-- How many bytes 0 lie between. -/
def zr (n : Nat) : Nat := (239 - n % 128) % 128
/-- The bytes that are laid behind n bytes. -/
def pdf (n : Nat) : Nat → Nat := pw (up (fun _ => 0) 0 128) (9 + zr n) (8 * n % 18446744073709551616)
set_option maxHeartbeats 4000000 in
set_option maxRecDepth 100000 in
theorem fill_s (g n : Nat) (w : World) (hn : U n) (hg : Blk w g (yC 144 fun _ => 0) 240) :
    Calls Tryz.prog 116 #[.pointer (some ⟨g, 0, none⟩), .int .u64 n] w fun e w' => e = .returned (.int .i64 ((17 + zr n : Nat) : Int)) ∧ Blk w' g (yC 144 (pdf n)) 240 ∧ Chg w w' [g] := by
  unfold U at hn
  have hz : zr n < 128 := Nat.mod_lt _ (by decide)
  obtain ⟨q, hq⟩ : ∃ q, 8 * n % 18446744073709551616 = q := ⟨_, rfl⟩
  have uq : U q := by rw [← hq]; exact Nat.mod_lt _ (by decide)
  have e1 : (IntKind.u64.wrap (111 - (n : Int))).tmod 128 = ((zr n : Nat) : Int) := by
    rw [IntKind.wrap_u64, Int.tmod_eq_emod_of_nonneg (by omega)]; unfold zr; omega
  have e2 : IntKind.u64.wrap (8 * (n : Int)) = (q : Int) := by rw [IntKind.wrap_u64]; omega
  have HP : Hid (pdf n = pw (up (fun _ => 0) 0 128) (9 + zr n) q) := by show pdf n = _; unfold pdf; rw [hq]
  generalize zr n = z at *
  clear hq
  have c0 := (hg.cell 0).trans (yC_get 144 _ 0 (by omega))
  have f0 := hg.frozen 0
  obtain ⟨p1, hp1⟩ : ∃ p, p = 1 + z := ⟨_, rfl⟩
  obtain ⟨p9, hp9⟩ : ∃ p, p = 9 + z := ⟨_, rfl⟩
  obtain ⟨p17, hp17⟩ : ∃ p, p = 17 + z := ⟨_, rfl⟩
  have a1 : IntKind.u64.wrap (1 + (z : Int)) = (p1 : Int) := by rw [IntKind.wrap_u64]; omega
  have a2 : IntKind.u64.wrap ((p1 : Int) + 8) = (p9 : Int) := by rw [IntKind.wrap_u64]; omega
  have a3 : IntKind.u64.wrap ((p1 : Int) + 16) = (p17 : Int) := by rw [IntKind.wrap_u64]; omega
  have a4 : IntKind.i64.wrap (p17 : Int) = (p17 : Int) := by rw [IntKind.wrap_i64]; omega
  have a5 : IntKind.i64.wrap (p9 : Int) = (p9 : Int) := by rw [IntKind.wrap_i64]; omega
  have hi : (p9 : Int) ≤ 144 := by omega
  rw [← hp17]
  rw [← hp9] at HP
  have H9 : p9 + 8 ≤ 144 := by omega
  clear hp1 hp9 hp17 hz
  go_enter Tryz.func116, Tryz.ntmps116
  go_wp2_with fail
  have k := (hg.setCell 0 (.int .u8 ((128 : Nat) : Int))).to (yC_set 144 _ 0 128)
  refine (putWord_s g p9 (144 - p9) (144 - p9) 144 _ q 240 _ (by omega) uq (by omega) k).mono ?_
  rintro e v1 ⟨rfl, k1, c1⟩
  go_wp2_with fail
  go_ret
  refine ⟨rfl, by rw [HP.out]; exact k1, ?_⟩
  exact ((Chg.refl w [g]).setIn (by simp) _ _).trans1 c1
end Go.Proofs.YtgjclegpnbjlkaaGreatDoor
