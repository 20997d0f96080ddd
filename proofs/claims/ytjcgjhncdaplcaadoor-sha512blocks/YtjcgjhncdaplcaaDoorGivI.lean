/- (*Given).Intact, behind one call of Bytes. -/
import Derived.Test.YtjcgjhncdaplcaaDoorGivB
set_option linter.unusedVariables false
set_option linter.unusedSimpArgs false
set_option linter.unnecessarySimpa false
namespace Go.Proofs.YtjcgjhncdaplcaaDoor
open Go.RowKit

/-- A Given that has two lists, and nothing else. -/
def gC (la lb : Value) : Array Value := #[la, lb] ++ Array.replicate 28 (.slice none 0 0)
theorem gC_nil (la lb : Value) (k : Nat) (h2 : 2 ≤ k) (h : k < 30) : (gC la lb)[k]? = some (.slice none 0 0) := by
  unfold gC
  rw [Array.getElem?_append_right (by simp only [List.size_toArray, List.length_cons, List.length_nil]; omega), Array.getElem?_replicate, if_pos (by simp only [List.size_toArray, List.length_cons, List.length_nil]; omega)]
theorem gC_0 (la lb : Value) : (gC la lb)[0]? = some la := by unfold gC; rw [Array.getElem?_append_left (by simp)]; simp
theorem gC_1 (la lb : Value) : (gC la lb)[1]? = some lb := by unfold gC; rw [Array.getElem?_append_left (by simp)]; simp
theorem cell_chg {w w' : World} {g k : Nat} {v : Value} (h : w.cell? ⟨g, k, none⟩ = some v) (hc : Chg w w' []) : w'.cell? ⟨g, k, none⟩ = some v := by
  have hl : g < w.heap.size := by
    by_cases hl : g < w.heap.size
    · exact hl
    · simp [World.cell?, Array.getElem?_eq_none (Nat.le_of_not_lt hl)] at h
  rw [← h]
  simp only [World.cell?, hc.block g hl (by simp)]
set_option maxHeartbeats 16000000 in
set_option maxRecDepth 100000 in
theorem Intact_1 (gb m o lg lc mg mc xg xc : Nat) (F : Nat → Nat) (w : World) (hm : m ≤ 140737488355331) (hF : ∀ i, i < m → F i < 256) (hg : Blk w gb (gC (.slice (some ⟨lg, 0, none⟩) 1 lc) (.slice (some ⟨mg, 0, none⟩) 1 mc)) 39)
    (hl : w.cell? ⟨lg, 0, none⟩ = some (.slice (some ⟨o, 0, none⟩) m m)) (hr : w.cell? ⟨mg, 0, none⟩ = some (.slice (some ⟨xg, 0, none⟩) m xc)) (ho : Blk w o (yC m F) 5) (hx : Bs w xg 0 m F) :
    Calls Tryd.prog 16 #[.pointer (some ⟨gb, 0, none⟩)] w fun e w' => e = .returned (.bool true) ∧ Chg w w' [] := by
  have obs : Bs w o 0 m F := ⟨ho.lt, hF, fun i hi => by rw [Nat.zero_add, ho.cell, yC_get _ _ _ hi]⟩
  clear ho
  go_enter Tryd.func16, Tryd.ntmps16
  have cc : Chg w w [] := Chg.refl w []
  go_wp2_with fail
  go_loopw [3] (fun t wr => ∃ i : Nat, i ≤ 1 ∧ t = .int .i64 (i : Int) ∧ Chg w wr []) (fun t _ => (1 - intOf t).toNat)
  case atStart => exact ⟨0, by omega, rfl, cc⟩
  case round =>
    clear cc
    obtain ⟨i, hi, rfl, cc⟩ := hrel
    have c0 := ((hg.chg cc (by simp)).cell 0).trans (gC_0 _ _)
    have c1 := ((hg.chg cc (by simp)).cell 1).trans (gC_1 _ _)
    by_cases h8 : i = 0
    · subst h8
      have d0 := cell_chg hl cc
      have d1 := cell_chg hr cc
      have ob1 := obs.chg cc (by simp)
      have ob2 := hx.chg cc (by simp)
      go_wp2_with fail
      go_quiet (first | (go_at_call 23; exact Calls.quiet_of (SameBytes_g o 0 m xg 0 xc m F F _ (by omega) (ob1.drewN _) (ob2.drewN _) (fun _ _ => rfl))))
      go_wp2_with fail
      exact ⟨⟨1, by omega, by go_num, cc.drewN _⟩, by simp [intOf]⟩
    · have h1 : i = 1 := by omega
      subst h1
      go_wp2_with fail
      go_loopw [4] (fun t wr => t = .int .i64 0 ∧ Chg w wr []) (fun _ _ => 0)
      case atStart => exact ⟨rfl, cc⟩
      case round =>
        clear cc c0 c1
        obtain ⟨rfl, cc⟩ := hrel
        have c0 := ((hg.chg cc (by simp)).cell 2).trans (gC_nil _ _ 2 (by omega) (by omega))
        go_wp2_with fail
        go_loopw [5] (fun t wr => t = .int .i64 0 ∧ Chg w wr []) (fun _ _ => 0)
        case atStart => exact ⟨rfl, cc⟩
        case round =>
          clear cc c0
          obtain ⟨rfl, cc⟩ := hrel
          have c0 := ((hg.chg cc (by simp)).cell 4).trans (gC_nil _ _ 4 (by omega) (by omega))
          go_wp2_with fail
          go_loopw [6] (fun t wr => t = .int .i64 0 ∧ Chg w wr []) (fun _ _ => 0)
          case atStart => exact ⟨rfl, cc⟩
          case round =>
            clear cc c0
            obtain ⟨rfl, cc⟩ := hrel
            have c0 := ((hg.chg cc (by simp)).cell 6).trans (gC_nil _ _ 6 (by omega) (by omega))
            go_wp2_with fail
            go_loopw [7] (fun t wr => t = .int .i64 0 ∧ Chg w wr []) (fun _ _ => 0)
            case atStart => exact ⟨rfl, cc⟩
            case round =>
              clear cc c0
              obtain ⟨rfl, cc⟩ := hrel
              have c0 := ((hg.chg cc (by simp)).cell 8).trans (gC_nil _ _ 8 (by omega) (by omega))
              go_wp2_with fail
              go_loopw [8] (fun t wr => t = .int .i64 0 ∧ Chg w wr []) (fun _ _ => 0)
              case atStart => exact ⟨rfl, cc⟩
              case round =>
                clear cc c0
                obtain ⟨rfl, cc⟩ := hrel
                have c0 := ((hg.chg cc (by simp)).cell 10).trans (gC_nil _ _ 10 (by omega) (by omega))
                go_wp2_with fail
                go_loopw [9] (fun t wr => t = .int .i64 0 ∧ Chg w wr []) (fun _ _ => 0)
                case atStart => exact ⟨rfl, cc⟩
                case round =>
                  clear cc c0
                  obtain ⟨rfl, cc⟩ := hrel
                  have c0 := ((hg.chg cc (by simp)).cell 12).trans (gC_nil _ _ 12 (by omega) (by omega))
                  go_wp2_with fail
                  go_loopw [10] (fun t wr => t = .int .i64 0 ∧ Chg w wr []) (fun _ _ => 0)
                  case atStart => exact ⟨rfl, cc⟩
                  case round =>
                    clear cc c0
                    obtain ⟨rfl, cc⟩ := hrel
                    have c0 := ((hg.chg cc (by simp)).cell 14).trans (gC_nil _ _ 14 (by omega) (by omega))
                    go_wp2_with fail
                    go_loopw [11] (fun t wr => t = .int .i64 0 ∧ Chg w wr []) (fun _ _ => 0)
                    case atStart => exact ⟨rfl, cc⟩
                    case round =>
                      clear cc c0
                      obtain ⟨rfl, cc⟩ := hrel
                      have c0 := ((hg.chg cc (by simp)).cell 16).trans (gC_nil _ _ 16 (by omega) (by omega))
                      go_wp2_with fail
                      go_loopw [12] (fun t wr => t = .int .i64 0 ∧ Chg w wr []) (fun _ _ => 0)
                      case atStart => exact ⟨rfl, cc⟩
                      case round =>
                        clear cc c0
                        obtain ⟨rfl, cc⟩ := hrel
                        have c0 := ((hg.chg cc (by simp)).cell 18).trans (gC_nil _ _ 18 (by omega) (by omega))
                        go_wp2_with fail
                        go_loopw [13] (fun t wr => t = .int .i64 0 ∧ Chg w wr []) (fun _ _ => 0)
                        case atStart => exact ⟨rfl, cc⟩
                        case round =>
                          clear cc c0
                          obtain ⟨rfl, cc⟩ := hrel
                          have c0 := ((hg.chg cc (by simp)).cell 20).trans (gC_nil _ _ 20 (by omega) (by omega))
                          go_wp2_with fail
                          go_loopw [14] (fun t wr => t = .int .i64 0 ∧ Chg w wr []) (fun _ _ => 0)
                          case atStart => exact ⟨rfl, cc⟩
                          case round =>
                            clear cc c0
                            obtain ⟨rfl, cc⟩ := hrel
                            have c0 := ((hg.chg cc (by simp)).cell 22).trans (gC_nil _ _ 22 (by omega) (by omega))
                            go_wp2_with fail
                            go_loopw [15] (fun t wr => t = .int .i64 0 ∧ Chg w wr []) (fun _ _ => 0)
                            case atStart => exact ⟨rfl, cc⟩
                            case round =>
                              clear cc c0
                              obtain ⟨rfl, cc⟩ := hrel
                              have c0 := ((hg.chg cc (by simp)).cell 24).trans (gC_nil _ _ 24 (by omega) (by omega))
                              go_wp2_with fail
                              go_loopw [16] (fun t wr => t = .int .i64 0 ∧ Chg w wr []) (fun _ _ => 0)
                              case atStart => exact ⟨rfl, cc⟩
                              case round =>
                                clear cc c0
                                obtain ⟨rfl, cc⟩ := hrel
                                have c0 := ((hg.chg cc (by simp)).cell 26).trans (gC_nil _ _ 26 (by omega) (by omega))
                                go_wp2_with fail
                                go_loopw [17] (fun t wr => t = .int .i64 0 ∧ Chg w wr []) (fun _ _ => 0)
                                case atStart => exact ⟨rfl, cc⟩
                                case round =>
                                  clear cc c0
                                  obtain ⟨rfl, cc⟩ := hrel
                                  have c0 := ((hg.chg cc (by simp)).cell 28).trans (gC_nil _ _ 28 (by omega) (by omega))
                                  go_wp2_with fail
                                  go_ret
                                  exact ⟨rfl, cc⟩
end Go.Proofs.YtjcgjhncdaplcaaDoor
