/- Joined: GivI, GivE. -/
import Derived.Test.YtgjclegpnbjlkaaGreatDoorMwP
set_option linter.all false
namespace Go.Proofs.YtgjclegpnbjlkaaGreatDoor
set_option maxHeartbeats 16000000
set_option maxRecDepth 100000
open Go.RowKit
def giC (la lb : Value) : Array Value := #[la, lb] ++ Array.replicate 28 (.slice none 0 0)
theorem gC_nil (la lb : Value) (k : Nat) (h2 : 2 ≤ k) (h : k < 30) : (giC la lb)[k]? = some (.slice none 0 0) := by
 unfold giC
 rw [Array.getElem?_append_right (by simp only [List.size_toArray, List.length_cons, List.length_nil]; omega), Array.getElem?_replicate, if_pos (by simp only [List.size_toArray, List.length_cons, List.length_nil]; omega)]
theorem gC_0 (la lb : Value) : (giC la lb)[0]? = some la := by unfold giC; rw [Array.getElem?_append_left (by simp)]; simp
theorem gC_1 (la lb : Value) : (giC la lb)[1]? = some lb := by unfold giC; rw [Array.getElem?_append_left (by simp)]; simp
theorem cell_chg {w w' : World} {g k : Nat} {v : Value} (h : w.cell? ⟨g, k, none⟩ = some v) (hc : Chg w w' []) : w'.cell? ⟨g, k, none⟩ = some v := by
 have hl : g < w.heap.size := by
   by_cases hl : g < w.heap.size
   · exact hl
   · simp [World.cell?, Array.getElem?_eq_none (Nat.le_of_not_lt hl)] at h
 rw [← h]
 simp only [World.cell?, hc.block g hl (by simp)]
theorem Intact_1 (gb m o lg lc mg mc xg xc : Nat) (F : Nat → Nat) (w : World) (hm : m ≤ 140737488355331) (hF : ∀ i, i < m → F i < 256) (hg : Blk w gb (giC (.slice (some ⟨lg, 0, none⟩) 1 lc) (.slice (some ⟨mg, 0, none⟩) 1 mc)) 52)
   (hl : w.cell? ⟨lg, 0, none⟩ = some (.slice (some ⟨o, 0, none⟩) m m)) (hr : w.cell? ⟨mg, 0, none⟩ = some (.slice (some ⟨xg, 0, none⟩) m xc)) (ho : Blk w o (yC m F) 5) (hx : Bs w xg 0 m F) :
   Calls Tryz.prog 12 #[.pointer (some ⟨gb, 0, none⟩)] w fun e w' => e = .returned (.bool true) ∧ Chg w w' [] := by
 have obs : Bs w o 0 m F := ⟨ho.lt, hF, fun i hi => by rw [Nat.zero_add, ho.cell, yC_get _ _ _ hi]⟩
 clear ho
 go_enter Tryz.func12, Tryz.ntmps12
 have cc : Chg w w [] := Chg.refl w []
 go_wp2_with fail
 go_loopw [3] (fun t wr => ∃ i : Nat, i ≤ 1 ∧ t = .int .i64 (i : Int) ∧ Chg w wr []) (fun t _ => (1 - intOf t).toNat)
 case atStart => exact ⟨0, by omega, rfl, cc⟩
 case round =>
   clear cc
   obtain ⟨i, hi, rfl, cc⟩ := hrel
   have c0 := ((hg.chg cc (by simp)).cell 0).trans (gC_0 _ _)
   have c1 := ((hg.chg cc (by simp)).cell 1).trans (gC_1 _ _)
   by_cases h8 : i = 0
   · subst h8
     have d0 := cell_chg hl cc
     have d1 := cell_chg hr cc
     have ob1 := obs.chg cc (by simp)
     have ob2 := hx.chg cc (by simp)
     go_wp2_with fail
     go_quiet (first | (go_at_call 10; exact Calls.quiet_of (SameBytes_g o 0 m xg 0 xc m F F _ (by omega) (ob1.drewN _) (ob2.drewN _) (fun _ _ => rfl))))
     go_wp2_with fail
     exact ⟨⟨1, by omega, by go_num, cc.drewN _⟩, by simp [intOf]⟩
   · have h1 : i = 1 := by omega
     subst h1
     go_wp2_with fail
     go_loopw [4] (fun t wr => t = .int .i64 0 ∧ Chg w wr []) (fun _ _ => 0)
     case atStart => exact ⟨rfl, cc⟩
     case round =>
       clear cc c0 c1
       obtain ⟨rfl, cc⟩ := hrel
       have c0 := ((hg.chg cc (by simp)).cell 2).trans (gC_nil _ _ 2 (by omega) (by omega))
       go_wp2_with fail
       go_loopw [5] (fun t wr => t = .int .i64 0 ∧ Chg w wr []) (fun _ _ => 0)
       case atStart => exact ⟨rfl, cc⟩
       case round =>
         clear cc c0
         obtain ⟨rfl, cc⟩ := hrel
         have c0 := ((hg.chg cc (by simp)).cell 4).trans (gC_nil _ _ 4 (by omega) (by omega))
         go_wp2_with fail
         go_loopw [6] (fun t wr => t = .int .i64 0 ∧ Chg w wr []) (fun _ _ => 0)
         case atStart => exact ⟨rfl, cc⟩
         case round =>
           clear cc c0
           obtain ⟨rfl, cc⟩ := hrel
           have c0 := ((hg.chg cc (by simp)).cell 6).trans (gC_nil _ _ 6 (by omega) (by omega))
           go_wp2_with fail
           go_loopw [7] (fun t wr => t = .int .i64 0 ∧ Chg w wr []) (fun _ _ => 0)
           case atStart => exact ⟨rfl, cc⟩
           case round =>
             clear cc c0
             obtain ⟨rfl, cc⟩ := hrel
             have c0 := ((hg.chg cc (by simp)).cell 8).trans (gC_nil _ _ 8 (by omega) (by omega))
             go_wp2_with fail
             go_loopw [8] (fun t wr => t = .int .i64 0 ∧ Chg w wr []) (fun _ _ => 0)
             case atStart => exact ⟨rfl, cc⟩
             case round =>
               clear cc c0
               obtain ⟨rfl, cc⟩ := hrel
               have c0 := ((hg.chg cc (by simp)).cell 10).trans (gC_nil _ _ 10 (by omega) (by omega))
               go_wp2_with fail
               go_loopw [9] (fun t wr => t = .int .i64 0 ∧ Chg w wr []) (fun _ _ => 0)
               case atStart => exact ⟨rfl, cc⟩
               case round =>
                 clear cc c0
                 obtain ⟨rfl, cc⟩ := hrel
                 have c0 := ((hg.chg cc (by simp)).cell 12).trans (gC_nil _ _ 12 (by omega) (by omega))
                 go_wp2_with fail
                 go_loopw [10] (fun t wr => t = .int .i64 0 ∧ Chg w wr []) (fun _ _ => 0)
                 case atStart => exact ⟨rfl, cc⟩
                 case round =>
                   clear cc c0
                   obtain ⟨rfl, cc⟩ := hrel
                   have c0 := ((hg.chg cc (by simp)).cell 14).trans (gC_nil _ _ 14 (by omega) (by omega))
                   go_wp2_with fail
                   go_loopw [11] (fun t wr => t = .int .i64 0 ∧ Chg w wr []) (fun _ _ => 0)
                   case atStart => exact ⟨rfl, cc⟩
                   case round =>
                     clear cc c0
                     obtain ⟨rfl, cc⟩ := hrel
                     have c0 := ((hg.chg cc (by simp)).cell 16).trans (gC_nil _ _ 16 (by omega) (by omega))
                     go_wp2_with fail
                     go_loopw [12] (fun t wr => t = .int .i64 0 ∧ Chg w wr []) (fun _ _ => 0)
                     case atStart => exact ⟨rfl, cc⟩
                     case round =>
                       clear cc c0
                       obtain ⟨rfl, cc⟩ := hrel
                       have c0 := ((hg.chg cc (by simp)).cell 18).trans (gC_nil _ _ 18 (by omega) (by omega))
                       go_wp2_with fail
                       go_loopw [13] (fun t wr => t = .int .i64 0 ∧ Chg w wr []) (fun _ _ => 0)
                       case atStart => exact ⟨rfl, cc⟩
                       case round =>
                         clear cc c0
                         obtain ⟨rfl, cc⟩ := hrel
                         have c0 := ((hg.chg cc (by simp)).cell 20).trans (gC_nil _ _ 20 (by omega) (by omega))
                         go_wp2_with fail
                         go_loopw [14] (fun t wr => t = .int .i64 0 ∧ Chg w wr []) (fun _ _ => 0)
                         case atStart => exact ⟨rfl, cc⟩
                         case round =>
                           clear cc c0
                           obtain ⟨rfl, cc⟩ := hrel
                           have c0 := ((hg.chg cc (by simp)).cell 22).trans (gC_nil _ _ 22 (by omega) (by omega))
                           go_wp2_with fail
                           go_loopw [15] (fun t wr => t = .int .i64 0 ∧ Chg w wr []) (fun _ _ => 0)
                           case atStart => exact ⟨rfl, cc⟩
                           case round =>
                             clear cc c0
                             obtain ⟨rfl, cc⟩ := hrel
                             have c0 := ((hg.chg cc (by simp)).cell 24).trans (gC_nil _ _ 24 (by omega) (by omega))
                             go_wp2_with fail
                             go_loopw [16] (fun t wr => t = .int .i64 0 ∧ Chg w wr []) (fun _ _ => 0)
                             case atStart => exact ⟨rfl, cc⟩
                             case round =>
                               clear cc c0
                               obtain ⟨rfl, cc⟩ := hrel
                               have c0 := ((hg.chg cc (by simp)).cell 26).trans (gC_nil _ _ 26 (by omega) (by omega))
                               go_wp2_with fail
                               go_loopw [17] (fun t wr => t = .int .i64 0 ∧ Chg w wr []) (fun _ _ => 0)
                               case atStart => exact ⟨rfl, cc⟩
                               case round =>
                                 clear cc c0
                                 obtain ⟨rfl, cc⟩ := hrel
                                 have c0 := ((hg.chg cc (by simp)).cell 28).trans (gC_nil _ _ 28 (by omega) (by omega))
                                 go_wp2_with fail
                                 go_ret
                                 exact ⟨rfl, cc⟩
end Go.Proofs.YtgjclegpnbjlkaaGreatDoor

set_option linter.all false
namespace Go.Proofs.YtgjclegpnbjlkaaGreatDoor
open Go.RowKit
def GI (w : World) (gb base top : Nat) : Prop := ∃ (m o lg lc mg mc xg xc : Nat) (F : Nat → Nat), m ≤ 140737488355331 ∧ (∀ i, i < m → F i < 256) ∧ Blk w gb (giC (.slice (some ⟨lg, 0, none⟩) 1 lc) (.slice (some ⟨mg, 0, none⟩) 1 mc)) 52 ∧
 w.cell? ⟨lg, 0, none⟩ = some (.slice (some ⟨o, 0, none⟩) m m) ∧ w.cell? ⟨mg, 0, none⟩ = some (.slice (some ⟨xg, 0, none⟩) m xc) ∧ Blk w o (yC m F) 5 ∧ Bs w xg 0 m F ∧
 (base ≤ o ∧ o < top) ∧ (base ≤ lg ∧ lg < top) ∧ (base ≤ mg ∧ mg < top) ∧ (base ≤ xg ∧ xg < top) ∧ gb < top ∧ top ≤ w.heap.size
theorem cell_chgL {w w' : World} {g k : Nat} {v : Value} {l : List Nat} (h : w.cell? ⟨g, k, none⟩ = some v) (hc : Chg w w' l) (hn : ¬ g ∈ l) : w'.cell? ⟨g, k, none⟩ = some v := by
 have hl : g < w.heap.size := by
   by_cases hl : g < w.heap.size
   · exact hl
   · simp [World.cell?, Array.getElem?_eq_none (Nat.le_of_not_lt hl)] at h
 rw [← h]
 simp only [World.cell?, hc.block g hl hn]
theorem GI.chg {w w' : World} {gb base top : Nat} {l : List Nat} (h : GI w gb base top) (hc : Chg w w' l) (hl : ∀ x, x ∈ l → (x < base ∨ top ≤ x) ∧ ¬ x = gb) : GI w' gb base top := by
 obtain ⟨m, o, lg, lc, mg, mc, xg, xc, F, h1, h2, h3, h4, h5, h6, h7, b1, b2, b3, b4, b5, b6⟩ := h
 have off : ∀ x, base ≤ x ∧ x < top → ¬ x ∈ l := fun x hx hm => by have := (hl x hm).1; omega
 exact ⟨m, o, lg, lc, mg, mc, xg, xc, F, h1, h2, h3.chg hc (fun hm => (hl gb hm).2 rfl), cell_chgL h4 hc (off _ b2), cell_chgL h5 hc (off _ b3), h6.chg hc (off _ b1), h7.chg hc (off _ b4), b1, b2, b3, b4, b5, Nat.le_trans b6 hc.size⟩
theorem GI.chg0 {w w' : World} {gb base top : Nat} (h : GI w gb base top) (hc : Chg w w' []) : GI w' gb base top := h.chg hc (by simp)
theorem GI.lt {w : World} {gb base top : Nat} (h : GI w gb base top) : gb < top ∧ top ≤ w.heap.size := by
 obtain ⟨m, o, lg, lc, mg, mc, xg, xc, F, h1, h2, h3, h4, h5, h6, h7, b1, b2, b3, b4, b5, b6⟩ := h
 exact ⟨b5, b6⟩
theorem GI.intact {w : World} {gb base top : Nat} (h : GI w gb base top) : Calls Tryz.prog 12 #[.pointer (some ⟨gb, 0, none⟩)] w fun e w' => e = .returned (.bool true) ∧ Chg w w' [] := by
 obtain ⟨m, o, lg, lc, mg, mc, xg, xc, F, h1, h2, h3, h4, h5, h6, h7, _⟩ := h
 exact Intact_1 gb m o lg lc mg mc xg xc F w h1 h2 h3 h4 h5 h6 h7
theorem gC_rest : (#[.slice none 0 0, .slice none 0 0] ++ Array.replicate 28 (.slice none 0 0) : Array Value) = giC (.slice none 0 0) (.slice none 0 0) := rfl
theorem givenBytes_e (gb n : Nat) (v : Value) (f : Nat → Nat) (w : World) (hn : n ≤ 140737488355328) (hv : Sl w v n f) (hg : Blk w gb (giC (.slice none 0 0) (.slice none 0 0)) 52) :
   Calls Tryz.prog 14 #[.pointer (some ⟨gb, 0, none⟩), v] w fun e w' => ∃ o, e = .returned (.slice (some ⟨o, 0, none⟩) n (n + 3)) ∧ Bs w' o 0 n f ∧ GI w' gb w.heap.size w'.heap.size ∧ Chg w w' [gb] := by
 have hf := sl_lt hv
 refine (GivenBytes_1 gb n v f (Array.replicate 28 (.slice none 0 0)) w hn hv (by rw [gC_rest]; exact hg)).mono ?_
 rintro e x2 ⟨r, rfl, o, la, lb, x, rfl, k, ho, bo, ox, ola, olb, bg⟩
 obtain ⟨lg, lc, rfl, p1, p2, cl⟩ := ola.form
 obtain ⟨mg, mc, rfl, p3, p4, cr⟩ := olb.form
 obtain ⟨xg, xc, rfl, p5, _, _, bx⟩ := ox.form (by omega)
 refine ⟨o, rfl, ⟨bo.lt, hf, fun i hi => ?_⟩, ⟨n + 3, o, lg, lc, mg, mc, xg, xc, gvf f n, by omega, fun i _ => gvf_lt hf i, by unfold giC; exact bg, cl, cr, bo, bx, ⟨ho, bo.lt⟩, ⟨p1, p2⟩, ⟨p3, p4⟩, ⟨p5, bx.lt⟩, bg.lt, Nat.le_refl _⟩, k⟩
 rw [Nat.zero_add, bo.cell, yC_get _ _ _ (by omega)]
 unfold gvf
 rw [if_pos hi]
end Go.Proofs.YtgjclegpnbjlkaaGreatDoor
