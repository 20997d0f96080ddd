/- rimeplain.Book: its lists, and its looks at lists that are nil. -/
import Derived.Test.YtjcgjhncdaplcabDoorByt
set_option linter.unusedVariables false
set_option linter.unusedSimpArgs false
set_option linter.unnecessarySimpa false
namespace Go.Proofs.YtjcgjhncdaplcabDoor
open Go.RowKit

/-- A book's twenty-one lists. -/
def bkC (B : Nat → Value) : Array Value := ((List.range 21).map B).toArray
theorem bkC_get (B : Nat → Value) (k : Nat) (h : k < 21) : (bkC B)[k]? = some (B k) := by simp [bkC, h]
set_option maxHeartbeats 4000000 in
set_option maxRecDepth 100000 in
theorem apartBytes_nil (gb : Nat) (B : Nat → Value) (T : TypeId) (hB : B 0 = .slice none 0 0) (w : World) (h : Blk w gb (bkC B) T) : Calls Tryd.prog 20 #[.pointer (some ⟨gb, 0, none⟩)] w fun e w' => e = .returned (.bool true) ∧ Chg w w' [] := by
  have c0 := (h.cell 0).trans (bkC_get B 0 (by decide))
  rw [hB] at c0
  have cc := Chg.refl w []
  clear h hB
  go_enter Tryd.func20, Tryd.ntmps20
  go_wp2_with fail
  go_loopw [4] (fun t wr => t = .int .i64 0 ∧ Chg w wr []) (fun _ _ => 0)
  case atStart => exact ⟨rfl, cc⟩
  case round =>
    clear cc
    obtain ⟨rfl, cc⟩ := hrel
    go_wp2_with fail
    go_loopw [7] (fun t wr => t = .int .i64 0 ∧ Chg w wr []) (fun _ _ => 0)
    case atStart => exact ⟨rfl, cc⟩
    case round =>
      clear cc
      obtain ⟨rfl, cc⟩ := hrel
      go_wp2_with fail
      go_loopw [10] (fun t wr => t = .int .i64 0 ∧ Chg w wr []) (fun _ _ => 0)
      case atStart => exact ⟨rfl, cc⟩
      case round =>
        clear cc
        obtain ⟨rfl, cc⟩ := hrel
        go_wp2_with fail
        go_ret
        exact ⟨rfl, cc⟩
set_option maxHeartbeats 4000000 in
set_option maxRecDepth 100000 in
theorem apartInts_nil (gb : Nat) (B : Nat → Value) (T : TypeId) (hB : B 1 = .slice none 0 0) (w : World) (h : Blk w gb (bkC B) T) : Calls Tryd.prog 21 #[.pointer (some ⟨gb, 0, none⟩)] w fun e w' => e = .returned (.bool true) ∧ Chg w w' [] := by
  have c0 := (h.cell 1).trans (bkC_get B 1 (by decide))
  rw [hB] at c0
  have cc := Chg.refl w []
  clear h hB
  go_enter Tryd.func21, Tryd.ntmps21
  go_wp2_with fail
  go_loopw [4] (fun t wr => t = .int .i64 0 ∧ Chg w wr []) (fun _ _ => 0)
  case atStart => exact ⟨rfl, cc⟩
  case round =>
    clear cc
    obtain ⟨rfl, cc⟩ := hrel
    go_wp2_with fail
    go_loopw [7] (fun t wr => t = .int .i64 0 ∧ Chg w wr []) (fun _ _ => 0)
    case atStart => exact ⟨rfl, cc⟩
    case round =>
      clear cc
      obtain ⟨rfl, cc⟩ := hrel
      go_wp2_with fail
      go_loopw [10] (fun t wr => t = .int .i64 0 ∧ Chg w wr []) (fun _ _ => 0)
      case atStart => exact ⟨rfl, cc⟩
      case round =>
        clear cc
        obtain ⟨rfl, cc⟩ := hrel
        go_wp2_with fail
        go_ret
        exact ⟨rfl, cc⟩
set_option maxHeartbeats 4000000 in
set_option maxRecDepth 100000 in
theorem apartPath_nil (gb : Nat) (B : Nat → Value) (T : TypeId) (hB : B 2 = .slice none 0 0) (w : World) (h : Blk w gb (bkC B) T) : Calls Tryd.prog 22 #[.pointer (some ⟨gb, 0, none⟩)] w fun e w' => e = .returned (.bool true) ∧ Chg w w' [] := by
  have c0 := (h.cell 2).trans (bkC_get B 2 (by decide))
  rw [hB] at c0
  have cc := Chg.refl w []
  clear h hB
  go_enter Tryd.func22, Tryd.ntmps22
  go_wp2_with fail
  go_loopw [4] (fun t wr => t = .int .i64 0 ∧ Chg w wr []) (fun _ _ => 0)
  case atStart => exact ⟨rfl, cc⟩
  case round =>
    clear cc
    obtain ⟨rfl, cc⟩ := hrel
    go_wp2_with fail
    go_loopw [7] (fun t wr => t = .int .i64 0 ∧ Chg w wr []) (fun _ _ => 0)
    case atStart => exact ⟨rfl, cc⟩
    case round =>
      clear cc
      obtain ⟨rfl, cc⟩ := hrel
      go_wp2_with fail
      go_loopw [10] (fun t wr => t = .int .i64 0 ∧ Chg w wr []) (fun _ _ => 0)
      case atStart => exact ⟨rfl, cc⟩
      case round =>
        clear cc
        obtain ⟨rfl, cc⟩ := hrel
        go_wp2_with fail
        go_ret
        exact ⟨rfl, cc⟩
set_option maxHeartbeats 4000000 in
set_option maxRecDepth 100000 in
theorem apartFes_nil (gb : Nat) (B : Nat → Value) (T : TypeId) (hB : B 3 = .slice none 0 0) (w : World) (h : Blk w gb (bkC B) T) : Calls Tryd.prog 23 #[.pointer (some ⟨gb, 0, none⟩)] w fun e w' => e = .returned (.bool true) ∧ Chg w w' [] := by
  have c0 := (h.cell 3).trans (bkC_get B 3 (by decide))
  rw [hB] at c0
  have cc := Chg.refl w []
  clear h hB
  go_enter Tryd.func23, Tryd.ntmps23
  go_wp2_with fail
  go_loopw [4] (fun t wr => t = .int .i64 0 ∧ Chg w wr []) (fun _ _ => 0)
  case atStart => exact ⟨rfl, cc⟩
  case round =>
    clear cc
    obtain ⟨rfl, cc⟩ := hrel
    go_wp2_with fail
    go_loopw [7] (fun t wr => t = .int .i64 0 ∧ Chg w wr []) (fun _ _ => 0)
    case atStart => exact ⟨rfl, cc⟩
    case round =>
      clear cc
      obtain ⟨rfl, cc⟩ := hrel
      go_wp2_with fail
      go_loopw [10] (fun t wr => t = .int .i64 0 ∧ Chg w wr []) (fun _ _ => 0)
      case atStart => exact ⟨rfl, cc⟩
      case round =>
        clear cc
        obtain ⟨rfl, cc⟩ := hrel
        go_wp2_with fail
        go_ret
        exact ⟨rfl, cc⟩
set_option maxHeartbeats 4000000 in
set_option maxRecDepth 100000 in
theorem apartScalars_nil (gb : Nat) (B : Nat → Value) (T : TypeId) (hB : B 4 = .slice none 0 0) (w : World) (h : Blk w gb (bkC B) T) : Calls Tryd.prog 24 #[.pointer (some ⟨gb, 0, none⟩)] w fun e w' => e = .returned (.bool true) ∧ Chg w w' [] := by
  have c0 := (h.cell 4).trans (bkC_get B 4 (by decide))
  rw [hB] at c0
  have cc := Chg.refl w []
  clear h hB
  go_enter Tryd.func24, Tryd.ntmps24
  go_wp2_with fail
  go_loopw [4] (fun t wr => t = .int .i64 0 ∧ Chg w wr []) (fun _ _ => 0)
  case atStart => exact ⟨rfl, cc⟩
  case round =>
    clear cc
    obtain ⟨rfl, cc⟩ := hrel
    go_wp2_with fail
    go_loopw [7] (fun t wr => t = .int .i64 0 ∧ Chg w wr []) (fun _ _ => 0)
    case atStart => exact ⟨rfl, cc⟩
    case round =>
      clear cc
      obtain ⟨rfl, cc⟩ := hrel
      go_wp2_with fail
      go_loopw [10] (fun t wr => t = .int .i64 0 ∧ Chg w wr []) (fun _ _ => 0)
      case atStart => exact ⟨rfl, cc⟩
      case round =>
        clear cc
        obtain ⟨rfl, cc⟩ := hrel
        go_wp2_with fail
        go_ret
        exact ⟨rfl, cc⟩
set_option maxHeartbeats 4000000 in
set_option maxRecDepth 100000 in
theorem apartElements_nil (gb : Nat) (B : Nat → Value) (T : TypeId) (hB : B 5 = .slice none 0 0) (w : World) (h : Blk w gb (bkC B) T) : Calls Tryd.prog 25 #[.pointer (some ⟨gb, 0, none⟩)] w fun e w' => e = .returned (.bool true) ∧ Chg w w' [] := by
  have c0 := (h.cell 5).trans (bkC_get B 5 (by decide))
  rw [hB] at c0
  have cc := Chg.refl w []
  clear h hB
  go_enter Tryd.func25, Tryd.ntmps25
  go_wp2_with fail
  go_loopw [4] (fun t wr => t = .int .i64 0 ∧ Chg w wr []) (fun _ _ => 0)
  case atStart => exact ⟨rfl, cc⟩
  case round =>
    clear cc
    obtain ⟨rfl, cc⟩ := hrel
    go_wp2_with fail
    go_loopw [7] (fun t wr => t = .int .i64 0 ∧ Chg w wr []) (fun _ _ => 0)
    case atStart => exact ⟨rfl, cc⟩
    case round =>
      clear cc
      obtain ⟨rfl, cc⟩ := hrel
      go_wp2_with fail
      go_loopw [10] (fun t wr => t = .int .i64 0 ∧ Chg w wr []) (fun _ _ => 0)
      case atStart => exact ⟨rfl, cc⟩
      case round =>
        clear cc
        obtain ⟨rfl, cc⟩ := hrel
        go_wp2_with fail
        go_ret
        exact ⟨rfl, cc⟩
set_option maxHeartbeats 4000000 in
set_option maxRecDepth 100000 in
theorem apartRandoms_nil (gb : Nat) (B : Nat → Value) (T : TypeId) (hB : B 6 = .slice none 0 0) (w : World) (h : Blk w gb (bkC B) T) : Calls Tryd.prog 26 #[.pointer (some ⟨gb, 0, none⟩)] w fun e w' => e = .returned (.bool true) ∧ Chg w w' [] := by
  have c0 := (h.cell 6).trans (bkC_get B 6 (by decide))
  rw [hB] at c0
  have cc := Chg.refl w []
  clear h hB
  go_enter Tryd.func26, Tryd.ntmps26
  go_wp2_with fail
  go_loopw [4] (fun t wr => t = .int .i64 0 ∧ Chg w wr []) (fun _ _ => 0)
  case atStart => exact ⟨rfl, cc⟩
  case round =>
    clear cc
    obtain ⟨rfl, cc⟩ := hrel
    go_wp2_with fail
    go_loopw [7] (fun t wr => t = .int .i64 0 ∧ Chg w wr []) (fun _ _ => 0)
    case atStart => exact ⟨rfl, cc⟩
    case round =>
      clear cc
      obtain ⟨rfl, cc⟩ := hrel
      go_wp2_with fail
      go_loopw [10] (fun t wr => t = .int .i64 0 ∧ Chg w wr []) (fun _ _ => 0)
      case atStart => exact ⟨rfl, cc⟩
      case round =>
        clear cc
        obtain ⟨rfl, cc⟩ := hrel
        go_wp2_with fail
        go_ret
        exact ⟨rfl, cc⟩
set_option maxHeartbeats 4000000 in
set_option maxRecDepth 100000 in
theorem apartHashes_nil (gb : Nat) (B : Nat → Value) (T : TypeId) (hB : B 7 = .slice none 0 0) (w : World) (h : Blk w gb (bkC B) T) : Calls Tryd.prog 27 #[.pointer (some ⟨gb, 0, none⟩)] w fun e w' => e = .returned (.bool true) ∧ Chg w w' [] := by
  have c0 := (h.cell 7).trans (bkC_get B 7 (by decide))
  rw [hB] at c0
  have cc := Chg.refl w []
  clear h hB
  go_enter Tryd.func27, Tryd.ntmps27
  go_wp2_with fail
  go_loopw [4] (fun t wr => t = .int .i64 0 ∧ Chg w wr []) (fun _ _ => 0)
  case atStart => exact ⟨rfl, cc⟩
  case round =>
    clear cc
    obtain ⟨rfl, cc⟩ := hrel
    go_wp2_with fail
    go_loopw [7] (fun t wr => t = .int .i64 0 ∧ Chg w wr []) (fun _ _ => 0)
    case atStart => exact ⟨rfl, cc⟩
    case round =>
      clear cc
      obtain ⟨rfl, cc⟩ := hrel
      go_wp2_with fail
      go_loopw [10] (fun t wr => t = .int .i64 0 ∧ Chg w wr []) (fun _ _ => 0)
      case atStart => exact ⟨rfl, cc⟩
      case round =>
        clear cc
        obtain ⟨rfl, cc⟩ := hrel
        go_wp2_with fail
        go_ret
        exact ⟨rfl, cc⟩
set_option maxHeartbeats 4000000 in
set_option maxRecDepth 100000 in
theorem apartShares_nil (gb : Nat) (B : Nat → Value) (T : TypeId) (hB : B 8 = .slice none 0 0) (w : World) (h : Blk w gb (bkC B) T) : Calls Tryd.prog 28 #[.pointer (some ⟨gb, 0, none⟩)] w fun e w' => e = .returned (.bool true) ∧ Chg w w' [] := by
  have c0 := (h.cell 8).trans (bkC_get B 8 (by decide))
  rw [hB] at c0
  have cc := Chg.refl w []
  clear h hB
  go_enter Tryd.func28, Tryd.ntmps28
  go_wp2_with fail
  go_loopw [4] (fun t wr => t = .int .i64 0 ∧ Chg w wr []) (fun _ _ => 0)
  case atStart => exact ⟨rfl, cc⟩
  case round =>
    clear cc
    obtain ⟨rfl, cc⟩ := hrel
    go_wp2_with fail
    go_loopw [7] (fun t wr => t = .int .i64 0 ∧ Chg w wr []) (fun _ _ => 0)
    case atStart => exact ⟨rfl, cc⟩
    case round =>
      clear cc
      obtain ⟨rfl, cc⟩ := hrel
      go_wp2_with fail
      go_loopw [10] (fun t wr => t = .int .i64 0 ∧ Chg w wr []) (fun _ _ => 0)
      case atStart => exact ⟨rfl, cc⟩
      case round =>
        clear cc
        obtain ⟨rfl, cc⟩ := hrel
        go_wp2_with fail
        go_ret
        exact ⟨rfl, cc⟩
set_option maxHeartbeats 4000000 in
set_option maxRecDepth 100000 in
theorem apartSigShares_nil (gb : Nat) (B : Nat → Value) (T : TypeId) (hB : B 9 = .slice none 0 0) (w : World) (h : Blk w gb (bkC B) T) : Calls Tryd.prog 29 #[.pointer (some ⟨gb, 0, none⟩)] w fun e w' => e = .returned (.bool true) ∧ Chg w w' [] := by
  have c0 := (h.cell 9).trans (bkC_get B 9 (by decide))
  rw [hB] at c0
  have cc := Chg.refl w []
  clear h hB
  go_enter Tryd.func29, Tryd.ntmps29
  go_wp2_with fail
  go_loopw [4] (fun t wr => t = .int .i64 0 ∧ Chg w wr []) (fun _ _ => 0)
  case atStart => exact ⟨rfl, cc⟩
  case round =>
    clear cc
    obtain ⟨rfl, cc⟩ := hrel
    go_wp2_with fail
    go_loopw [7] (fun t wr => t = .int .i64 0 ∧ Chg w wr []) (fun _ _ => 0)
    case atStart => exact ⟨rfl, cc⟩
    case round =>
      clear cc
      obtain ⟨rfl, cc⟩ := hrel
      go_wp2_with fail
      go_loopw [10] (fun t wr => t = .int .i64 0 ∧ Chg w wr []) (fun _ _ => 0)
      case atStart => exact ⟨rfl, cc⟩
      case round =>
        clear cc
        obtain ⟨rfl, cc⟩ := hrel
        go_wp2_with fail
        go_ret
        exact ⟨rfl, cc⟩
set_option maxHeartbeats 4000000 in
set_option maxRecDepth 100000 in
theorem apartFactors_nil (gb : Nat) (B : Nat → Value) (T : TypeId) (hB : B 10 = .slice none 0 0) (w : World) (h : Blk w gb (bkC B) T) : Calls Tryd.prog 30 #[.pointer (some ⟨gb, 0, none⟩)] w fun e w' => e = .returned (.bool true) ∧ Chg w w' [] := by
  have c0 := (h.cell 10).trans (bkC_get B 10 (by decide))
  rw [hB] at c0
  have cc := Chg.refl w []
  clear h hB
  go_enter Tryd.func30, Tryd.ntmps30
  go_wp2_with fail
  go_loopw [4] (fun t wr => t = .int .i64 0 ∧ Chg w wr []) (fun _ _ => 0)
  case atStart => exact ⟨rfl, cc⟩
  case round =>
    clear cc
    obtain ⟨rfl, cc⟩ := hrel
    go_wp2_with fail
    go_loopw [7] (fun t wr => t = .int .i64 0 ∧ Chg w wr []) (fun _ _ => 0)
    case atStart => exact ⟨rfl, cc⟩
    case round =>
      clear cc
      obtain ⟨rfl, cc⟩ := hrel
      go_wp2_with fail
      go_loopw [10] (fun t wr => t = .int .i64 0 ∧ Chg w wr []) (fun _ _ => 0)
      case atStart => exact ⟨rfl, cc⟩
      case round =>
        clear cc
        obtain ⟨rfl, cc⟩ := hrel
        go_wp2_with fail
        go_ret
        exact ⟨rfl, cc⟩
set_option maxHeartbeats 4000000 in
set_option maxRecDepth 100000 in
theorem apartCommitments_nil (gb : Nat) (B : Nat → Value) (T : TypeId) (hB : B 11 = .slice none 0 0) (w : World) (h : Blk w gb (bkC B) T) : Calls Tryd.prog 31 #[.pointer (some ⟨gb, 0, none⟩)] w fun e w' => e = .returned (.bool true) ∧ Chg w w' [] := by
  have c0 := (h.cell 11).trans (bkC_get B 11 (by decide))
  rw [hB] at c0
  have cc := Chg.refl w []
  clear h hB
  go_enter Tryd.func31, Tryd.ntmps31
  go_wp2_with fail
  go_loopw [4] (fun t wr => t = .int .i64 0 ∧ Chg w wr []) (fun _ _ => 0)
  case atStart => exact ⟨rfl, cc⟩
  case round =>
    clear cc
    obtain ⟨rfl, cc⟩ := hrel
    go_wp2_with fail
    go_loopw [7] (fun t wr => t = .int .i64 0 ∧ Chg w wr []) (fun _ _ => 0)
    case atStart => exact ⟨rfl, cc⟩
    case round =>
      clear cc
      obtain ⟨rfl, cc⟩ := hrel
      go_wp2_with fail
      go_loopw [10] (fun t wr => t = .int .i64 0 ∧ Chg w wr []) (fun _ _ => 0)
      case atStart => exact ⟨rfl, cc⟩
      case round =>
        clear cc
        obtain ⟨rfl, cc⟩ := hrel
        go_wp2_with fail
        go_ret
        exact ⟨rfl, cc⟩
set_option maxHeartbeats 4000000 in
set_option maxRecDepth 100000 in
theorem apartPublics_nil (gb : Nat) (B : Nat → Value) (T : TypeId) (hB : B 12 = .slice none 0 0) (w : World) (h : Blk w gb (bkC B) T) : Calls Tryd.prog 32 #[.pointer (some ⟨gb, 0, none⟩)] w fun e w' => e = .returned (.bool true) ∧ Chg w w' [] := by
  have c0 := (h.cell 12).trans (bkC_get B 12 (by decide))
  rw [hB] at c0
  have cc := Chg.refl w []
  clear h hB
  go_enter Tryd.func32, Tryd.ntmps32
  go_wp2_with fail
  go_loopw [4] (fun t wr => t = .int .i64 0 ∧ Chg w wr []) (fun _ _ => 0)
  case atStart => exact ⟨rfl, cc⟩
  case round =>
    clear cc
    obtain ⟨rfl, cc⟩ := hrel
    go_wp2_with fail
    go_loopw [7] (fun t wr => t = .int .i64 0 ∧ Chg w wr []) (fun _ _ => 0)
    case atStart => exact ⟨rfl, cc⟩
    case round =>
      clear cc
      obtain ⟨rfl, cc⟩ := hrel
      go_wp2_with fail
      go_loopw [10] (fun t wr => t = .int .i64 0 ∧ Chg w wr []) (fun _ _ => 0)
      case atStart => exact ⟨rfl, cc⟩
      case round =>
        clear cc
        obtain ⟨rfl, cc⟩ := hrel
        go_wp2_with fail
        go_ret
        exact ⟨rfl, cc⟩
set_option maxHeartbeats 4000000 in
set_option maxRecDepth 100000 in
theorem apartSecrets_nil (gb : Nat) (B : Nat → Value) (T : TypeId) (hB : B 13 = .slice none 0 0) (w : World) (h : Blk w gb (bkC B) T) : Calls Tryd.prog 33 #[.pointer (some ⟨gb, 0, none⟩)] w fun e w' => e = .returned (.bool true) ∧ Chg w w' [] := by
  have c0 := (h.cell 13).trans (bkC_get B 13 (by decide))
  rw [hB] at c0
  have cc := Chg.refl w []
  clear h hB
  go_enter Tryd.func33, Tryd.ntmps33
  go_wp2_with fail
  go_loopw [4] (fun t wr => t = .int .i64 0 ∧ Chg w wr []) (fun _ _ => 0)
  case atStart => exact ⟨rfl, cc⟩
  case round =>
    clear cc
    obtain ⟨rfl, cc⟩ := hrel
    go_wp2_with fail
    go_loopw [7] (fun t wr => t = .int .i64 0 ∧ Chg w wr []) (fun _ _ => 0)
    case atStart => exact ⟨rfl, cc⟩
    case round =>
      clear cc
      obtain ⟨rfl, cc⟩ := hrel
      go_wp2_with fail
      go_loopw [10] (fun t wr => t = .int .i64 0 ∧ Chg w wr []) (fun _ _ => 0)
      case atStart => exact ⟨rfl, cc⟩
      case round =>
        clear cc
        obtain ⟨rfl, cc⟩ := hrel
        go_wp2_with fail
        go_ret
        exact ⟨rfl, cc⟩
set_option maxHeartbeats 4000000 in
set_option maxRecDepth 100000 in
theorem apartComplaints_nil (gb : Nat) (B : Nat → Value) (T : TypeId) (hB : B 14 = .slice none 0 0) (w : World) (h : Blk w gb (bkC B) T) : Calls Tryd.prog 34 #[.pointer (some ⟨gb, 0, none⟩)] w fun e w' => e = .returned (.bool true) ∧ Chg w w' [] := by
  have c0 := (h.cell 14).trans (bkC_get B 14 (by decide))
  rw [hB] at c0
  have cc := Chg.refl w []
  clear h hB
  go_enter Tryd.func34, Tryd.ntmps34
  go_wp2_with fail
  go_loopw [4] (fun t wr => t = .int .i64 0 ∧ Chg w wr []) (fun _ _ => 0)
  case atStart => exact ⟨rfl, cc⟩
  case round =>
    clear cc
    obtain ⟨rfl, cc⟩ := hrel
    go_wp2_with fail
    go_loopw [7] (fun t wr => t = .int .i64 0 ∧ Chg w wr []) (fun _ _ => 0)
    case atStart => exact ⟨rfl, cc⟩
    case round =>
      clear cc
      obtain ⟨rfl, cc⟩ := hrel
      go_wp2_with fail
      go_loopw [10] (fun t wr => t = .int .i64 0 ∧ Chg w wr []) (fun _ _ => 0)
      case atStart => exact ⟨rfl, cc⟩
      case round =>
        clear cc
        obtain ⟨rfl, cc⟩ := hrel
        go_wp2_with fail
        go_ret
        exact ⟨rfl, cc⟩
set_option maxHeartbeats 4000000 in
set_option maxRecDepth 100000 in
theorem apartPlainLinks_nil (gb : Nat) (B : Nat → Value) (T : TypeId) (hB : B 15 = .slice none 0 0) (w : World) (h : Blk w gb (bkC B) T) : Calls Tryd.prog 35 #[.pointer (some ⟨gb, 0, none⟩)] w fun e w' => e = .returned (.bool true) ∧ Chg w w' [] := by
  have c0 := (h.cell 15).trans (bkC_get B 15 (by decide))
  rw [hB] at c0
  have cc := Chg.refl w []
  clear h hB
  go_enter Tryd.func35, Tryd.ntmps35
  go_wp2_with fail
  go_loopw [4] (fun t wr => t = .int .i64 0 ∧ Chg w wr []) (fun _ _ => 0)
  case atStart => exact ⟨rfl, cc⟩
  case round =>
    clear cc
    obtain ⟨rfl, cc⟩ := hrel
    go_wp2_with fail
    go_loopw [7] (fun t wr => t = .int .i64 0 ∧ Chg w wr []) (fun _ _ => 0)
    case atStart => exact ⟨rfl, cc⟩
    case round =>
      clear cc
      obtain ⟨rfl, cc⟩ := hrel
      go_wp2_with fail
      go_loopw [10] (fun t wr => t = .int .i64 0 ∧ Chg w wr []) (fun _ _ => 0)
      case atStart => exact ⟨rfl, cc⟩
      case round =>
        clear cc
        obtain ⟨rfl, cc⟩ := hrel
        go_wp2_with fail
        go_ret
        exact ⟨rfl, cc⟩
set_option maxHeartbeats 4000000 in
set_option maxRecDepth 100000 in
theorem apartPlainClaims_nil (gb : Nat) (B : Nat → Value) (T : TypeId) (hB : B 16 = .slice none 0 0) (w : World) (h : Blk w gb (bkC B) T) : Calls Tryd.prog 36 #[.pointer (some ⟨gb, 0, none⟩)] w fun e w' => e = .returned (.bool true) ∧ Chg w w' [] := by
  have c0 := (h.cell 16).trans (bkC_get B 16 (by decide))
  rw [hB] at c0
  have cc := Chg.refl w []
  clear h hB
  go_enter Tryd.func36, Tryd.ntmps36
  go_wp2_with fail
  go_loopw [4] (fun t wr => t = .int .i64 0 ∧ Chg w wr []) (fun _ _ => 0)
  case atStart => exact ⟨rfl, cc⟩
  case round =>
    clear cc
    obtain ⟨rfl, cc⟩ := hrel
    go_wp2_with fail
    go_loopw [7] (fun t wr => t = .int .i64 0 ∧ Chg w wr []) (fun _ _ => 0)
    case atStart => exact ⟨rfl, cc⟩
    case round =>
      clear cc
      obtain ⟨rfl, cc⟩ := hrel
      go_wp2_with fail
      go_loopw [10] (fun t wr => t = .int .i64 0 ∧ Chg w wr []) (fun _ _ => 0)
      case atStart => exact ⟨rfl, cc⟩
      case round =>
        clear cc
        obtain ⟨rfl, cc⟩ := hrel
        go_wp2_with fail
        go_ret
        exact ⟨rfl, cc⟩
set_option maxHeartbeats 4000000 in
set_option maxRecDepth 100000 in
theorem apartPlainPackets_nil (gb : Nat) (B : Nat → Value) (T : TypeId) (hB : B 17 = .slice none 0 0) (w : World) (h : Blk w gb (bkC B) T) : Calls Tryd.prog 37 #[.pointer (some ⟨gb, 0, none⟩)] w fun e w' => e = .returned (.bool true) ∧ Chg w w' [] := by
  have c0 := (h.cell 17).trans (bkC_get B 17 (by decide))
  rw [hB] at c0
  have cc := Chg.refl w []
  clear h hB
  go_enter Tryd.func37, Tryd.ntmps37
  go_wp2_with fail
  go_loopw [4] (fun t wr => t = .int .i64 0 ∧ Chg w wr []) (fun _ _ => 0)
  case atStart => exact ⟨rfl, cc⟩
  case round =>
    clear cc
    obtain ⟨rfl, cc⟩ := hrel
    go_wp2_with fail
    go_loopw [7] (fun t wr => t = .int .i64 0 ∧ Chg w wr []) (fun _ _ => 0)
    case atStart => exact ⟨rfl, cc⟩
    case round =>
      clear cc
      obtain ⟨rfl, cc⟩ := hrel
      go_wp2_with fail
      go_loopw [10] (fun t wr => t = .int .i64 0 ∧ Chg w wr []) (fun _ _ => 0)
      case atStart => exact ⟨rfl, cc⟩
      case round =>
        clear cc
        obtain ⟨rfl, cc⟩ := hrel
        go_wp2_with fail
        go_ret
        exact ⟨rfl, cc⟩
set_option maxHeartbeats 4000000 in
set_option maxRecDepth 100000 in
theorem apartPlainMessages_nil (gb : Nat) (B : Nat → Value) (T : TypeId) (hB : B 18 = .slice none 0 0) (w : World) (h : Blk w gb (bkC B) T) : Calls Tryd.prog 38 #[.pointer (some ⟨gb, 0, none⟩)] w fun e w' => e = .returned (.bool true) ∧ Chg w w' [] := by
  have c0 := (h.cell 18).trans (bkC_get B 18 (by decide))
  rw [hB] at c0
  have cc := Chg.refl w []
  clear h hB
  go_enter Tryd.func38, Tryd.ntmps38
  go_wp2_with fail
  go_loopw [4] (fun t wr => t = .int .i64 0 ∧ Chg w wr []) (fun _ _ => 0)
  case atStart => exact ⟨rfl, cc⟩
  case round =>
    clear cc
    obtain ⟨rfl, cc⟩ := hrel
    go_wp2_with fail
    go_loopw [7] (fun t wr => t = .int .i64 0 ∧ Chg w wr []) (fun _ _ => 0)
    case atStart => exact ⟨rfl, cc⟩
    case round =>
      clear cc
      obtain ⟨rfl, cc⟩ := hrel
      go_wp2_with fail
      go_loopw [10] (fun t wr => t = .int .i64 0 ∧ Chg w wr []) (fun _ _ => 0)
      case atStart => exact ⟨rfl, cc⟩
      case round =>
        clear cc
        obtain ⟨rfl, cc⟩ := hrel
        go_wp2_with fail
        go_ret
        exact ⟨rfl, cc⟩
set_option maxHeartbeats 4000000 in
set_option maxRecDepth 100000 in
theorem apartPlainSeen_nil (gb : Nat) (B : Nat → Value) (T : TypeId) (hB : B 19 = .slice none 0 0) (w : World) (h : Blk w gb (bkC B) T) : Calls Tryd.prog 39 #[.pointer (some ⟨gb, 0, none⟩)] w fun e w' => e = .returned (.bool true) ∧ Chg w w' [] := by
  have c0 := (h.cell 19).trans (bkC_get B 19 (by decide))
  rw [hB] at c0
  have cc := Chg.refl w []
  clear h hB
  go_enter Tryd.func39, Tryd.ntmps39
  go_wp2_with fail
  go_loopw [4] (fun t wr => t = .int .i64 0 ∧ Chg w wr []) (fun _ _ => 0)
  case atStart => exact ⟨rfl, cc⟩
  case round =>
    clear cc
    obtain ⟨rfl, cc⟩ := hrel
    go_wp2_with fail
    go_loopw [7] (fun t wr => t = .int .i64 0 ∧ Chg w wr []) (fun _ _ => 0)
    case atStart => exact ⟨rfl, cc⟩
    case round =>
      clear cc
      obtain ⟨rfl, cc⟩ := hrel
      go_wp2_with fail
      go_loopw [10] (fun t wr => t = .int .i64 0 ∧ Chg w wr []) (fun _ _ => 0)
      case atStart => exact ⟨rfl, cc⟩
      case round =>
        clear cc
        obtain ⟨rfl, cc⟩ := hrel
        go_wp2_with fail
        go_ret
        exact ⟨rfl, cc⟩
set_option maxHeartbeats 4000000 in
set_option maxRecDepth 100000 in
theorem apartPlainEvents_nil (gb : Nat) (B : Nat → Value) (T : TypeId) (hB : B 20 = .slice none 0 0) (w : World) (h : Blk w gb (bkC B) T) : Calls Tryd.prog 40 #[.pointer (some ⟨gb, 0, none⟩)] w fun e w' => e = .returned (.bool true) ∧ Chg w w' [] := by
  have c0 := (h.cell 20).trans (bkC_get B 20 (by decide))
  rw [hB] at c0
  have cc := Chg.refl w []
  clear h hB
  go_enter Tryd.func40, Tryd.ntmps40
  go_wp2_with fail
  go_loopw [4] (fun t wr => t = .int .i64 0 ∧ Chg w wr []) (fun _ _ => 0)
  case atStart => exact ⟨rfl, cc⟩
  case round =>
    clear cc
    obtain ⟨rfl, cc⟩ := hrel
    go_wp2_with fail
    go_loopw [7] (fun t wr => t = .int .i64 0 ∧ Chg w wr []) (fun _ _ => 0)
    case atStart => exact ⟨rfl, cc⟩
    case round =>
      clear cc
      obtain ⟨rfl, cc⟩ := hrel
      go_wp2_with fail
      go_loopw [10] (fun t wr => t = .int .i64 0 ∧ Chg w wr []) (fun _ _ => 0)
      case atStart => exact ⟨rfl, cc⟩
      case round =>
        clear cc
        obtain ⟨rfl, cc⟩ := hrel
        go_wp2_with fail
        go_ret
        exact ⟨rfl, cc⟩
end Go.Proofs.YtjcgjhncdaplcabDoor
