/- rimeplain.Book: its lists, and its looks at lists that are nil. -/
import Derived.Test.YtnopkojpgemldaaMgB
set_option linter.unusedVariables false
set_option linter.unusedSimpArgs false
set_option linter.unnecessarySimpa false
namespace Go.Proofs.Ytnopkojpgemldaa
open Go.RowKit

/-- A book's twenty-one lists. -/
def bkC (B : Nat → Value) : Array Value := ((List.range 21).map B).toArray
theorem bkC_get (B : Nat → Value) (k : Nat) (h : k < 21) : (bkC B)[k]? = some (B k) := by simp [bkC, h]
set_option maxHeartbeats 4000000 in
set_option maxRecDepth 100000 in
theorem apartBytes_nil (gb : Nat) (B : Nat → Value) (T : TypeId) (hB : B 0 = .slice none 0 0) (w : World) (h : Blk w gb (bkC B) T) : Calls Try.prog 39 #[.pointer (some ⟨gb, 0, none⟩)] w fun e w' => e = .returned (.bool true) ∧ Chg w w' [] := by
  have c0 := (h.cell 0).trans (bkC_get B 0 (by decide))
  rw [hB] at c0
  have cc := Chg.refl w []
  clear h hB
  go_enter Try.func39, Try.ntmps39
  go_wp2_with fail
  go_loopw [4] (fun t wr => t = .int .i64 0 ∧ Chg w wr []) (fun _ _ => 0)
  case atStart => exact ⟨rfl, cc⟩
  case round =>
    clear cc
    obtain ⟨rfl, cc⟩ := hrel
    go_wp2_with fail
    go_loopw [7] (fun t wr => t = .int .i64 0 ∧ Chg w wr []) (fun _ _ => 0)
    case atStart => exact ⟨rfl, cc⟩
    case round =>
      clear cc
      obtain ⟨rfl, cc⟩ := hrel
      go_wp2_with fail
      go_loopw [10] (fun t wr => t = .int .i64 0 ∧ Chg w wr []) (fun _ _ => 0)
      case atStart => exact ⟨rfl, cc⟩
      case round =>
        clear cc
        obtain ⟨rfl, cc⟩ := hrel
        go_wp2_with fail
        go_ret
        exact ⟨rfl, cc⟩
set_option maxHeartbeats 4000000 in
set_option maxRecDepth 100000 in
theorem apartInts_nil (gb : Nat) (B : Nat → Value) (T : TypeId) (hB : B 1 = .slice none 0 0) (w : World) (h : Blk w gb (bkC B) T) : Calls Try.prog 40 #[.pointer (some ⟨gb, 0, none⟩)] w fun e w' => e = .returned (.bool true) ∧ Chg w w' [] := by
  have c0 := (h.cell 1).trans (bkC_get B 1 (by decide))
  rw [hB] at c0
  have cc := Chg.refl w []
  clear h hB
  go_enter Try.func40, Try.ntmps40
  go_wp2_with fail
  go_loopw [4] (fun t wr => t = .int .i64 0 ∧ Chg w wr []) (fun _ _ => 0)
  case atStart => exact ⟨rfl, cc⟩
  case round =>
    clear cc
    obtain ⟨rfl, cc⟩ := hrel
    go_wp2_with fail
    go_loopw [7] (fun t wr => t = .int .i64 0 ∧ Chg w wr []) (fun _ _ => 0)
    case atStart => exact ⟨rfl, cc⟩
    case round =>
      clear cc
      obtain ⟨rfl, cc⟩ := hrel
      go_wp2_with fail
      go_loopw [10] (fun t wr => t = .int .i64 0 ∧ Chg w wr []) (fun _ _ => 0)
      case atStart => exact ⟨rfl, cc⟩
      case round =>
        clear cc
        obtain ⟨rfl, cc⟩ := hrel
        go_wp2_with fail
        go_ret
        exact ⟨rfl, cc⟩
set_option maxHeartbeats 4000000 in
set_option maxRecDepth 100000 in
theorem apartPath_nil (gb : Nat) (B : Nat → Value) (T : TypeId) (hB : B 2 = .slice none 0 0) (w : World) (h : Blk w gb (bkC B) T) : Calls Try.prog 41 #[.pointer (some ⟨gb, 0, none⟩)] w fun e w' => e = .returned (.bool true) ∧ Chg w w' [] := by
  have c0 := (h.cell 2).trans (bkC_get B 2 (by decide))
  rw [hB] at c0
  have cc := Chg.refl w []
  clear h hB
  go_enter Try.func41, Try.ntmps41
  go_wp2_with fail
  go_loopw [4] (fun t wr => t = .int .i64 0 ∧ Chg w wr []) (fun _ _ => 0)
  case atStart => exact ⟨rfl, cc⟩
  case round =>
    clear cc
    obtain ⟨rfl, cc⟩ := hrel
    go_wp2_with fail
    go_loopw [7] (fun t wr => t = .int .i64 0 ∧ Chg w wr []) (fun _ _ => 0)
    case atStart => exact ⟨rfl, cc⟩
    case round =>
      clear cc
      obtain ⟨rfl, cc⟩ := hrel
      go_wp2_with fail
      go_loopw [10] (fun t wr => t = .int .i64 0 ∧ Chg w wr []) (fun _ _ => 0)
      case atStart => exact ⟨rfl, cc⟩
      case round =>
        clear cc
        obtain ⟨rfl, cc⟩ := hrel
        go_wp2_with fail
        go_ret
        exact ⟨rfl, cc⟩
set_option maxHeartbeats 4000000 in
set_option maxRecDepth 100000 in
theorem apartFes_nil (gb : Nat) (B : Nat → Value) (T : TypeId) (hB : B 3 = .slice none 0 0) (w : World) (h : Blk w gb (bkC B) T) : Calls Try.prog 42 #[.pointer (some ⟨gb, 0, none⟩)] w fun e w' => e = .returned (.bool true) ∧ Chg w w' [] := by
  have c0 := (h.cell 3).trans (bkC_get B 3 (by decide))
  rw [hB] at c0
  have cc := Chg.refl w []
  clear h hB
  go_enter Try.func42, Try.ntmps42
  go_wp2_with fail
  go_loopw [4] (fun t wr => t = .int .i64 0 ∧ Chg w wr []) (fun _ _ => 0)
  case atStart => exact ⟨rfl, cc⟩
  case round =>
    clear cc
    obtain ⟨rfl, cc⟩ := hrel
    go_wp2_with fail
    go_loopw [7] (fun t wr => t = .int .i64 0 ∧ Chg w wr []) (fun _ _ => 0)
    case atStart => exact ⟨rfl, cc⟩
    case round =>
      clear cc
      obtain ⟨rfl, cc⟩ := hrel
      go_wp2_with fail
      go_loopw [10] (fun t wr => t = .int .i64 0 ∧ Chg w wr []) (fun _ _ => 0)
      case atStart => exact ⟨rfl, cc⟩
      case round =>
        clear cc
        obtain ⟨rfl, cc⟩ := hrel
        go_wp2_with fail
        go_ret
        exact ⟨rfl, cc⟩
set_option maxHeartbeats 4000000 in
set_option maxRecDepth 100000 in
theorem apartScalars_nil (gb : Nat) (B : Nat → Value) (T : TypeId) (hB : B 4 = .slice none 0 0) (w : World) (h : Blk w gb (bkC B) T) : Calls Try.prog 43 #[.pointer (some ⟨gb, 0, none⟩)] w fun e w' => e = .returned (.bool true) ∧ Chg w w' [] := by
  have c0 := (h.cell 4).trans (bkC_get B 4 (by decide))
  rw [hB] at c0
  have cc := Chg.refl w []
  clear h hB
  go_enter Try.func43, Try.ntmps43
  go_wp2_with fail
  go_loopw [4] (fun t wr => t = .int .i64 0 ∧ Chg w wr []) (fun _ _ => 0)
  case atStart => exact ⟨rfl, cc⟩
  case round =>
    clear cc
    obtain ⟨rfl, cc⟩ := hrel
    go_wp2_with fail
    go_loopw [7] (fun t wr => t = .int .i64 0 ∧ Chg w wr []) (fun _ _ => 0)
    case atStart => exact ⟨rfl, cc⟩
    case round =>
      clear cc
      obtain ⟨rfl, cc⟩ := hrel
      go_wp2_with fail
      go_loopw [10] (fun t wr => t = .int .i64 0 ∧ Chg w wr []) (fun _ _ => 0)
      case atStart => exact ⟨rfl, cc⟩
      case round =>
        clear cc
        obtain ⟨rfl, cc⟩ := hrel
        go_wp2_with fail
        go_ret
        exact ⟨rfl, cc⟩
set_option maxHeartbeats 4000000 in
set_option maxRecDepth 100000 in
theorem apartElements_nil (gb : Nat) (B : Nat → Value) (T : TypeId) (hB : B 5 = .slice none 0 0) (w : World) (h : Blk w gb (bkC B) T) : Calls Try.prog 44 #[.pointer (some ⟨gb, 0, none⟩)] w fun e w' => e = .returned (.bool true) ∧ Chg w w' [] := by
  have c0 := (h.cell 5).trans (bkC_get B 5 (by decide))
  rw [hB] at c0
  have cc := Chg.refl w []
  clear h hB
  go_enter Try.func44, Try.ntmps44
  go_wp2_with fail
  go_loopw [4] (fun t wr => t = .int .i64 0 ∧ Chg w wr []) (fun _ _ => 0)
  case atStart => exact ⟨rfl, cc⟩
  case round =>
    clear cc
    obtain ⟨rfl, cc⟩ := hrel
    go_wp2_with fail
    go_loopw [7] (fun t wr => t = .int .i64 0 ∧ Chg w wr []) (fun _ _ => 0)
    case atStart => exact ⟨rfl, cc⟩
    case round =>
      clear cc
      obtain ⟨rfl, cc⟩ := hrel
      go_wp2_with fail
      go_loopw [10] (fun t wr => t = .int .i64 0 ∧ Chg w wr []) (fun _ _ => 0)
      case atStart => exact ⟨rfl, cc⟩
      case round =>
        clear cc
        obtain ⟨rfl, cc⟩ := hrel
        go_wp2_with fail
        go_ret
        exact ⟨rfl, cc⟩
set_option maxHeartbeats 4000000 in
set_option maxRecDepth 100000 in
theorem apartRandoms_nil (gb : Nat) (B : Nat → Value) (T : TypeId) (hB : B 6 = .slice none 0 0) (w : World) (h : Blk w gb (bkC B) T) : Calls Try.prog 45 #[.pointer (some ⟨gb, 0, none⟩)] w fun e w' => e = .returned (.bool true) ∧ Chg w w' [] := by
  have c0 := (h.cell 6).trans (bkC_get B 6 (by decide))
  rw [hB] at c0
  have cc := Chg.refl w []
  clear h hB
  go_enter Try.func45, Try.ntmps45
  go_wp2_with fail
  go_loopw [4] (fun t wr => t = .int .i64 0 ∧ Chg w wr []) (fun _ _ => 0)
  case atStart => exact ⟨rfl, cc⟩
  case round =>
    clear cc
    obtain ⟨rfl, cc⟩ := hrel
    go_wp2_with fail
    go_loopw [7] (fun t wr => t = .int .i64 0 ∧ Chg w wr []) (fun _ _ => 0)
    case atStart => exact ⟨rfl, cc⟩
    case round =>
      clear cc
      obtain ⟨rfl, cc⟩ := hrel
      go_wp2_with fail
      go_loopw [10] (fun t wr => t = .int .i64 0 ∧ Chg w wr []) (fun _ _ => 0)
      case atStart => exact ⟨rfl, cc⟩
      case round =>
        clear cc
        obtain ⟨rfl, cc⟩ := hrel
        go_wp2_with fail
        go_ret
        exact ⟨rfl, cc⟩
set_option maxHeartbeats 4000000 in
set_option maxRecDepth 100000 in
theorem apartHashes_nil (gb : Nat) (B : Nat → Value) (T : TypeId) (hB : B 7 = .slice none 0 0) (w : World) (h : Blk w gb (bkC B) T) : Calls Try.prog 46 #[.pointer (some ⟨gb, 0, none⟩)] w fun e w' => e = .returned (.bool true) ∧ Chg w w' [] := by
  have c0 := (h.cell 7).trans (bkC_get B 7 (by decide))
  rw [hB] at c0
  have cc := Chg.refl w []
  clear h hB
  go_enter Try.func46, Try.ntmps46
  go_wp2_with fail
  go_loopw [4] (fun t wr => t = .int .i64 0 ∧ Chg w wr []) (fun _ _ => 0)
  case atStart => exact ⟨rfl, cc⟩
  case round =>
    clear cc
    obtain ⟨rfl, cc⟩ := hrel
    go_wp2_with fail
    go_loopw [7] (fun t wr => t = .int .i64 0 ∧ Chg w wr []) (fun _ _ => 0)
    case atStart => exact ⟨rfl, cc⟩
    case round =>
      clear cc
      obtain ⟨rfl, cc⟩ := hrel
      go_wp2_with fail
      go_loopw [10] (fun t wr => t = .int .i64 0 ∧ Chg w wr []) (fun _ _ => 0)
      case atStart => exact ⟨rfl, cc⟩
      case round =>
        clear cc
        obtain ⟨rfl, cc⟩ := hrel
        go_wp2_with fail
        go_ret
        exact ⟨rfl, cc⟩
set_option maxHeartbeats 4000000 in
set_option maxRecDepth 100000 in
theorem apartShares_nil (gb : Nat) (B : Nat → Value) (T : TypeId) (hB : B 8 = .slice none 0 0) (w : World) (h : Blk w gb (bkC B) T) : Calls Try.prog 47 #[.pointer (some ⟨gb, 0, none⟩)] w fun e w' => e = .returned (.bool true) ∧ Chg w w' [] := by
  have c0 := (h.cell 8).trans (bkC_get B 8 (by decide))
  rw [hB] at c0
  have cc := Chg.refl w []
  clear h hB
  go_enter Try.func47, Try.ntmps47
  go_wp2_with fail
  go_loopw [4] (fun t wr => t = .int .i64 0 ∧ Chg w wr []) (fun _ _ => 0)
  case atStart => exact ⟨rfl, cc⟩
  case round =>
    clear cc
    obtain ⟨rfl, cc⟩ := hrel
    go_wp2_with fail
    go_loopw [7] (fun t wr => t = .int .i64 0 ∧ Chg w wr []) (fun _ _ => 0)
    case atStart => exact ⟨rfl, cc⟩
    case round =>
      clear cc
      obtain ⟨rfl, cc⟩ := hrel
      go_wp2_with fail
      go_loopw [10] (fun t wr => t = .int .i64 0 ∧ Chg w wr []) (fun _ _ => 0)
      case atStart => exact ⟨rfl, cc⟩
      case round =>
        clear cc
        obtain ⟨rfl, cc⟩ := hrel
        go_wp2_with fail
        go_ret
        exact ⟨rfl, cc⟩
set_option maxHeartbeats 4000000 in
set_option maxRecDepth 100000 in
theorem apartSigShares_nil (gb : Nat) (B : Nat → Value) (T : TypeId) (hB : B 9 = .slice none 0 0) (w : World) (h : Blk w gb (bkC B) T) : Calls Try.prog 48 #[.pointer (some ⟨gb, 0, none⟩)] w fun e w' => e = .returned (.bool true) ∧ Chg w w' [] := by
  have c0 := (h.cell 9).trans (bkC_get B 9 (by decide))
  rw [hB] at c0
  have cc := Chg.refl w []
  clear h hB
  go_enter Try.func48, Try.ntmps48
  go_wp2_with fail
  go_loopw [4] (fun t wr => t = .int .i64 0 ∧ Chg w wr []) (fun _ _ => 0)
  case atStart => exact ⟨rfl, cc⟩
  case round =>
    clear cc
    obtain ⟨rfl, cc⟩ := hrel
    go_wp2_with fail
    go_loopw [7] (fun t wr => t = .int .i64 0 ∧ Chg w wr []) (fun _ _ => 0)
    case atStart => exact ⟨rfl, cc⟩
    case round =>
      clear cc
      obtain ⟨rfl, cc⟩ := hrel
      go_wp2_with fail
      go_loopw [10] (fun t wr => t = .int .i64 0 ∧ Chg w wr []) (fun _ _ => 0)
      case atStart => exact ⟨rfl, cc⟩
      case round =>
        clear cc
        obtain ⟨rfl, cc⟩ := hrel
        go_wp2_with fail
        go_ret
        exact ⟨rfl, cc⟩
set_option maxHeartbeats 4000000 in
set_option maxRecDepth 100000 in
theorem apartFactors_nil (gb : Nat) (B : Nat → Value) (T : TypeId) (hB : B 10 = .slice none 0 0) (w : World) (h : Blk w gb (bkC B) T) : Calls Try.prog 49 #[.pointer (some ⟨gb, 0, none⟩)] w fun e w' => e = .returned (.bool true) ∧ Chg w w' [] := by
  have c0 := (h.cell 10).trans (bkC_get B 10 (by decide))
  rw [hB] at c0
  have cc := Chg.refl w []
  clear h hB
  go_enter Try.func49, Try.ntmps49
  go_wp2_with fail
  go_loopw [4] (fun t wr => t = .int .i64 0 ∧ Chg w wr []) (fun _ _ => 0)
  case atStart => exact ⟨rfl, cc⟩
  case round =>
    clear cc
    obtain ⟨rfl, cc⟩ := hrel
    go_wp2_with fail
    go_loopw [7] (fun t wr => t = .int .i64 0 ∧ Chg w wr []) (fun _ _ => 0)
    case atStart => exact ⟨rfl, cc⟩
    case round =>
      clear cc
      obtain ⟨rfl, cc⟩ := hrel
      go_wp2_with fail
      go_loopw [10] (fun t wr => t = .int .i64 0 ∧ Chg w wr []) (fun _ _ => 0)
      case atStart => exact ⟨rfl, cc⟩
      case round =>
        clear cc
        obtain ⟨rfl, cc⟩ := hrel
        go_wp2_with fail
        go_ret
        exact ⟨rfl, cc⟩
set_option maxHeartbeats 4000000 in
set_option maxRecDepth 100000 in
theorem apartCommitments_nil (gb : Nat) (B : Nat → Value) (T : TypeId) (hB : B 11 = .slice none 0 0) (w : World) (h : Blk w gb (bkC B) T) : Calls Try.prog 50 #[.pointer (some ⟨gb, 0, none⟩)] w fun e w' => e = .returned (.bool true) ∧ Chg w w' [] := by
  have c0 := (h.cell 11).trans (bkC_get B 11 (by decide))
  rw [hB] at c0
  have cc := Chg.refl w []
  clear h hB
  go_enter Try.func50, Try.ntmps50
  go_wp2_with fail
  go_loopw [4] (fun t wr => t = .int .i64 0 ∧ Chg w wr []) (fun _ _ => 0)
  case atStart => exact ⟨rfl, cc⟩
  case round =>
    clear cc
    obtain ⟨rfl, cc⟩ := hrel
    go_wp2_with fail
    go_loopw [7] (fun t wr => t = .int .i64 0 ∧ Chg w wr []) (fun _ _ => 0)
    case atStart => exact ⟨rfl, cc⟩
    case round =>
      clear cc
      obtain ⟨rfl, cc⟩ := hrel
      go_wp2_with fail
      go_loopw [10] (fun t wr => t = .int .i64 0 ∧ Chg w wr []) (fun _ _ => 0)
      case atStart => exact ⟨rfl, cc⟩
      case round =>
        clear cc
        obtain ⟨rfl, cc⟩ := hrel
        go_wp2_with fail
        go_ret
        exact ⟨rfl, cc⟩
set_option maxHeartbeats 4000000 in
set_option maxRecDepth 100000 in
theorem apartPublics_nil (gb : Nat) (B : Nat → Value) (T : TypeId) (hB : B 12 = .slice none 0 0) (w : World) (h : Blk w gb (bkC B) T) : Calls Try.prog 51 #[.pointer (some ⟨gb, 0, none⟩)] w fun e w' => e = .returned (.bool true) ∧ Chg w w' [] := by
  have c0 := (h.cell 12).trans (bkC_get B 12 (by decide))
  rw [hB] at c0
  have cc := Chg.refl w []
  clear h hB
  go_enter Try.func51, Try.ntmps51
  go_wp2_with fail
  go_loopw [4] (fun t wr => t = .int .i64 0 ∧ Chg w wr []) (fun _ _ => 0)
  case atStart => exact ⟨rfl, cc⟩
  case round =>
    clear cc
    obtain ⟨rfl, cc⟩ := hrel
    go_wp2_with fail
    go_loopw [7] (fun t wr => t = .int .i64 0 ∧ Chg w wr []) (fun _ _ => 0)
    case atStart => exact ⟨rfl, cc⟩
    case round =>
      clear cc
      obtain ⟨rfl, cc⟩ := hrel
      go_wp2_with fail
      go_loopw [10] (fun t wr => t = .int .i64 0 ∧ Chg w wr []) (fun _ _ => 0)
      case atStart => exact ⟨rfl, cc⟩
      case round =>
        clear cc
        obtain ⟨rfl, cc⟩ := hrel
        go_wp2_with fail
        go_ret
        exact ⟨rfl, cc⟩
set_option maxHeartbeats 4000000 in
set_option maxRecDepth 100000 in
theorem apartSecrets_nil (gb : Nat) (B : Nat → Value) (T : TypeId) (hB : B 13 = .slice none 0 0) (w : World) (h : Blk w gb (bkC B) T) : Calls Try.prog 52 #[.pointer (some ⟨gb, 0, none⟩)] w fun e w' => e = .returned (.bool true) ∧ Chg w w' [] := by
  have c0 := (h.cell 13).trans (bkC_get B 13 (by decide))
  rw [hB] at c0
  have cc := Chg.refl w []
  clear h hB
  go_enter Try.func52, Try.ntmps52
  go_wp2_with fail
  go_loopw [4] (fun t wr => t = .int .i64 0 ∧ Chg w wr []) (fun _ _ => 0)
  case atStart => exact ⟨rfl, cc⟩
  case round =>
    clear cc
    obtain ⟨rfl, cc⟩ := hrel
    go_wp2_with fail
    go_loopw [7] (fun t wr => t = .int .i64 0 ∧ Chg w wr []) (fun _ _ => 0)
    case atStart => exact ⟨rfl, cc⟩
    case round =>
      clear cc
      obtain ⟨rfl, cc⟩ := hrel
      go_wp2_with fail
      go_loopw [10] (fun t wr => t = .int .i64 0 ∧ Chg w wr []) (fun _ _ => 0)
      case atStart => exact ⟨rfl, cc⟩
      case round =>
        clear cc
        obtain ⟨rfl, cc⟩ := hrel
        go_wp2_with fail
        go_ret
        exact ⟨rfl, cc⟩
set_option maxHeartbeats 4000000 in
set_option maxRecDepth 100000 in
theorem apartComplaints_nil (gb : Nat) (B : Nat → Value) (T : TypeId) (hB : B 14 = .slice none 0 0) (w : World) (h : Blk w gb (bkC B) T) : Calls Try.prog 53 #[.pointer (some ⟨gb, 0, none⟩)] w fun e w' => e = .returned (.bool true) ∧ Chg w w' [] := by
  have c0 := (h.cell 14).trans (bkC_get B 14 (by decide))
  rw [hB] at c0
  have cc := Chg.refl w []
  clear h hB
  go_enter Try.func53, Try.ntmps53
  go_wp2_with fail
  go_loopw [4] (fun t wr => t = .int .i64 0 ∧ Chg w wr []) (fun _ _ => 0)
  case atStart => exact ⟨rfl, cc⟩
  case round =>
    clear cc
    obtain ⟨rfl, cc⟩ := hrel
    go_wp2_with fail
    go_loopw [7] (fun t wr => t = .int .i64 0 ∧ Chg w wr []) (fun _ _ => 0)
    case atStart => exact ⟨rfl, cc⟩
    case round =>
      clear cc
      obtain ⟨rfl, cc⟩ := hrel
      go_wp2_with fail
      go_loopw [10] (fun t wr => t = .int .i64 0 ∧ Chg w wr []) (fun _ _ => 0)
      case atStart => exact ⟨rfl, cc⟩
      case round =>
        clear cc
        obtain ⟨rfl, cc⟩ := hrel
        go_wp2_with fail
        go_ret
        exact ⟨rfl, cc⟩
set_option maxHeartbeats 4000000 in
set_option maxRecDepth 100000 in
theorem apartPlainLinks_nil (gb : Nat) (B : Nat → Value) (T : TypeId) (hB : B 15 = .slice none 0 0) (w : World) (h : Blk w gb (bkC B) T) : Calls Try.prog 54 #[.pointer (some ⟨gb, 0, none⟩)] w fun e w' => e = .returned (.bool true) ∧ Chg w w' [] := by
  have c0 := (h.cell 15).trans (bkC_get B 15 (by decide))
  rw [hB] at c0
  have cc := Chg.refl w []
  clear h hB
  go_enter Try.func54, Try.ntmps54
  go_wp2_with fail
  go_loopw [4] (fun t wr => t = .int .i64 0 ∧ Chg w wr []) (fun _ _ => 0)
  case atStart => exact ⟨rfl, cc⟩
  case round =>
    clear cc
    obtain ⟨rfl, cc⟩ := hrel
    go_wp2_with fail
    go_loopw [7] (fun t wr => t = .int .i64 0 ∧ Chg w wr []) (fun _ _ => 0)
    case atStart => exact ⟨rfl, cc⟩
    case round =>
      clear cc
      obtain ⟨rfl, cc⟩ := hrel
      go_wp2_with fail
      go_loopw [10] (fun t wr => t = .int .i64 0 ∧ Chg w wr []) (fun _ _ => 0)
      case atStart => exact ⟨rfl, cc⟩
      case round =>
        clear cc
        obtain ⟨rfl, cc⟩ := hrel
        go_wp2_with fail
        go_ret
        exact ⟨rfl, cc⟩
set_option maxHeartbeats 4000000 in
set_option maxRecDepth 100000 in
theorem apartPlainClaims_nil (gb : Nat) (B : Nat → Value) (T : TypeId) (hB : B 16 = .slice none 0 0) (w : World) (h : Blk w gb (bkC B) T) : Calls Try.prog 55 #[.pointer (some ⟨gb, 0, none⟩)] w fun e w' => e = .returned (.bool true) ∧ Chg w w' [] := by
  have c0 := (h.cell 16).trans (bkC_get B 16 (by decide))
  rw [hB] at c0
  have cc := Chg.refl w []
  clear h hB
  go_enter Try.func55, Try.ntmps55
  go_wp2_with fail
  go_loopw [4] (fun t wr => t = .int .i64 0 ∧ Chg w wr []) (fun _ _ => 0)
  case atStart => exact ⟨rfl, cc⟩
  case round =>
    clear cc
    obtain ⟨rfl, cc⟩ := hrel
    go_wp2_with fail
    go_loopw [7] (fun t wr => t = .int .i64 0 ∧ Chg w wr []) (fun _ _ => 0)
    case atStart => exact ⟨rfl, cc⟩
    case round =>
      clear cc
      obtain ⟨rfl, cc⟩ := hrel
      go_wp2_with fail
      go_loopw [10] (fun t wr => t = .int .i64 0 ∧ Chg w wr []) (fun _ _ => 0)
      case atStart => exact ⟨rfl, cc⟩
      case round =>
        clear cc
        obtain ⟨rfl, cc⟩ := hrel
        go_wp2_with fail
        go_ret
        exact ⟨rfl, cc⟩
set_option maxHeartbeats 4000000 in
set_option maxRecDepth 100000 in
theorem apartPlainPackets_nil (gb : Nat) (B : Nat → Value) (T : TypeId) (hB : B 17 = .slice none 0 0) (w : World) (h : Blk w gb (bkC B) T) : Calls Try.prog 56 #[.pointer (some ⟨gb, 0, none⟩)] w fun e w' => e = .returned (.bool true) ∧ Chg w w' [] := by
  have c0 := (h.cell 17).trans (bkC_get B 17 (by decide))
  rw [hB] at c0
  have cc := Chg.refl w []
  clear h hB
  go_enter Try.func56, Try.ntmps56
  go_wp2_with fail
  go_loopw [4] (fun t wr => t = .int .i64 0 ∧ Chg w wr []) (fun _ _ => 0)
  case atStart => exact ⟨rfl, cc⟩
  case round =>
    clear cc
    obtain ⟨rfl, cc⟩ := hrel
    go_wp2_with fail
    go_loopw [7] (fun t wr => t = .int .i64 0 ∧ Chg w wr []) (fun _ _ => 0)
    case atStart => exact ⟨rfl, cc⟩
    case round =>
      clear cc
      obtain ⟨rfl, cc⟩ := hrel
      go_wp2_with fail
      go_loopw [10] (fun t wr => t = .int .i64 0 ∧ Chg w wr []) (fun _ _ => 0)
      case atStart => exact ⟨rfl, cc⟩
      case round =>
        clear cc
        obtain ⟨rfl, cc⟩ := hrel
        go_wp2_with fail
        go_ret
        exact ⟨rfl, cc⟩
set_option maxHeartbeats 4000000 in
set_option maxRecDepth 100000 in
theorem apartPlainMessages_nil (gb : Nat) (B : Nat → Value) (T : TypeId) (hB : B 18 = .slice none 0 0) (w : World) (h : Blk w gb (bkC B) T) : Calls Try.prog 57 #[.pointer (some ⟨gb, 0, none⟩)] w fun e w' => e = .returned (.bool true) ∧ Chg w w' [] := by
  have c0 := (h.cell 18).trans (bkC_get B 18 (by decide))
  rw [hB] at c0
  have cc := Chg.refl w []
  clear h hB
  go_enter Try.func57, Try.ntmps57
  go_wp2_with fail
  go_loopw [4] (fun t wr => t = .int .i64 0 ∧ Chg w wr []) (fun _ _ => 0)
  case atStart => exact ⟨rfl, cc⟩
  case round =>
    clear cc
    obtain ⟨rfl, cc⟩ := hrel
    go_wp2_with fail
    go_loopw [7] (fun t wr => t = .int .i64 0 ∧ Chg w wr []) (fun _ _ => 0)
    case atStart => exact ⟨rfl, cc⟩
    case round =>
      clear cc
      obtain ⟨rfl, cc⟩ := hrel
      go_wp2_with fail
      go_loopw [10] (fun t wr => t = .int .i64 0 ∧ Chg w wr []) (fun _ _ => 0)
      case atStart => exact ⟨rfl, cc⟩
      case round =>
        clear cc
        obtain ⟨rfl, cc⟩ := hrel
        go_wp2_with fail
        go_ret
        exact ⟨rfl, cc⟩
set_option maxHeartbeats 4000000 in
set_option maxRecDepth 100000 in
theorem apartPlainSeen_nil (gb : Nat) (B : Nat → Value) (T : TypeId) (hB : B 19 = .slice none 0 0) (w : World) (h : Blk w gb (bkC B) T) : Calls Try.prog 58 #[.pointer (some ⟨gb, 0, none⟩)] w fun e w' => e = .returned (.bool true) ∧ Chg w w' [] := by
  have c0 := (h.cell 19).trans (bkC_get B 19 (by decide))
  rw [hB] at c0
  have cc := Chg.refl w []
  clear h hB
  go_enter Try.func58, Try.ntmps58
  go_wp2_with fail
  go_loopw [4] (fun t wr => t = .int .i64 0 ∧ Chg w wr []) (fun _ _ => 0)
  case atStart => exact ⟨rfl, cc⟩
  case round =>
    clear cc
    obtain ⟨rfl, cc⟩ := hrel
    go_wp2_with fail
    go_loopw [7] (fun t wr => t = .int .i64 0 ∧ Chg w wr []) (fun _ _ => 0)
    case atStart => exact ⟨rfl, cc⟩
    case round =>
      clear cc
      obtain ⟨rfl, cc⟩ := hrel
      go_wp2_with fail
      go_loopw [10] (fun t wr => t = .int .i64 0 ∧ Chg w wr []) (fun _ _ => 0)
      case atStart => exact ⟨rfl, cc⟩
      case round =>
        clear cc
        obtain ⟨rfl, cc⟩ := hrel
        go_wp2_with fail
        go_ret
        exact ⟨rfl, cc⟩
set_option maxHeartbeats 4000000 in
set_option maxRecDepth 100000 in
theorem apartPlainEvents_nil (gb : Nat) (B : Nat → Value) (T : TypeId) (hB : B 20 = .slice none 0 0) (w : World) (h : Blk w gb (bkC B) T) : Calls Try.prog 59 #[.pointer (some ⟨gb, 0, none⟩)] w fun e w' => e = .returned (.bool true) ∧ Chg w w' [] := by
  have c0 := (h.cell 20).trans (bkC_get B 20 (by decide))
  rw [hB] at c0
  have cc := Chg.refl w []
  clear h hB
  go_enter Try.func59, Try.ntmps59
  go_wp2_with fail
  go_loopw [4] (fun t wr => t = .int .i64 0 ∧ Chg w wr []) (fun _ _ => 0)
  case atStart => exact ⟨rfl, cc⟩
  case round =>
    clear cc
    obtain ⟨rfl, cc⟩ := hrel
    go_wp2_with fail
    go_loopw [7] (fun t wr => t = .int .i64 0 ∧ Chg w wr []) (fun _ _ => 0)
    case atStart => exact ⟨rfl, cc⟩
    case round =>
      clear cc
      obtain ⟨rfl, cc⟩ := hrel
      go_wp2_with fail
      go_loopw [10] (fun t wr => t = .int .i64 0 ∧ Chg w wr []) (fun _ _ => 0)
      case atStart => exact ⟨rfl, cc⟩
      case round =>
        clear cc
        obtain ⟨rfl, cc⟩ := hrel
        go_wp2_with fail
        go_ret
        exact ⟨rfl, cc⟩
end Go.Proofs.Ytnopkojpgemldaa
