/- (*Given).Bytes called once, and Intact behind it: what a law's walk carries. -/
import Derived.Test.YtjcgjhncdaplcaaDoorGivI
set_option linter.unusedVariables false
set_option linter.unusedSimpArgs false
set_option linter.unnecessarySimpa false
namespace Go.Proofs.YtjcgjhncdaplcaaDoor
open Go.RowKit

/-- A Given behind one call of Bytes; what the call made lies from base on, below top. -/
def GI (w : World) (gb base top : Nat) : Prop := ∃ (m o lg lc mg mc xg xc : Nat) (F : Nat → Nat), m ≤ 140737488355331 ∧ (∀ i, i < m → F i < 256) ∧ Blk w gb (gC (.slice (some ⟨lg, 0, none⟩) 1 lc) (.slice (some ⟨mg, 0, none⟩) 1 mc)) 39 ∧
  w.cell? ⟨lg, 0, none⟩ = some (.slice (some ⟨o, 0, none⟩) m m) ∧ w.cell? ⟨mg, 0, none⟩ = some (.slice (some ⟨xg, 0, none⟩) m xc) ∧ Blk w o (yC m F) 5 ∧ Bs w xg 0 m F ∧
  (base ≤ o ∧ o < top) ∧ (base ≤ lg ∧ lg < top) ∧ (base ≤ mg ∧ mg < top) ∧ (base ≤ xg ∧ xg < top) ∧ gb < top ∧ top ≤ w.heap.size
theorem cell_chgL {w w' : World} {g k : Nat} {v : Value} {l : List Nat} (h : w.cell? ⟨g, k, none⟩ = some v) (hc : Chg w w' l) (hn : ¬ g ∈ l) : w'.cell? ⟨g, k, none⟩ = some v := by
  have hl : g < w.heap.size := by
    by_cases hl : g < w.heap.size
    · exact hl
    · simp [World.cell?, Array.getElem?_eq_none (Nat.le_of_not_lt hl)] at h
  rw [← h]
  simp only [World.cell?, hc.block g hl hn]
theorem GI.chg {w w' : World} {gb base top : Nat} {l : List Nat} (h : GI w gb base top) (hc : Chg w w' l) (hl : ∀ x, x ∈ l → (x < base ∨ top ≤ x) ∧ ¬ x = gb) : GI w' gb base top := by
  obtain ⟨m, o, lg, lc, mg, mc, xg, xc, F, h1, h2, h3, h4, h5, h6, h7, b1, b2, b3, b4, b5, b6⟩ := h
  have off : ∀ x, base ≤ x ∧ x < top → ¬ x ∈ l := fun x hx hm => by have := (hl x hm).1; omega
  exact ⟨m, o, lg, lc, mg, mc, xg, xc, F, h1, h2, h3.chg hc (fun hm => (hl gb hm).2 rfl), cell_chgL h4 hc (off _ b2), cell_chgL h5 hc (off _ b3), h6.chg hc (off _ b1), h7.chg hc (off _ b4), b1, b2, b3, b4, b5, Nat.le_trans b6 hc.size⟩
theorem GI.chg0 {w w' : World} {gb base top : Nat} (h : GI w gb base top) (hc : Chg w w' []) : GI w' gb base top := h.chg hc (by simp)
theorem GI.lt {w : World} {gb base top : Nat} (h : GI w gb base top) : gb < top ∧ top ≤ w.heap.size := by
  obtain ⟨m, o, lg, lc, mg, mc, xg, xc, F, h1, h2, h3, h4, h5, h6, h7, b1, b2, b3, b4, b5, b6⟩ := h
  exact ⟨b5, b6⟩
theorem GI.intact {w : World} {gb base top : Nat} (h : GI w gb base top) : Calls Tryd.prog 16 #[.pointer (some ⟨gb, 0, none⟩)] w fun e w' => e = .returned (.bool true) ∧ Chg w w' [] := by
  obtain ⟨m, o, lg, lc, mg, mc, xg, xc, F, h1, h2, h3, h4, h5, h6, h7, _⟩ := h
  exact Intact_1 gb m o lg lc mg mc xg xc F w h1 h2 h3 h4 h5 h6 h7
theorem gC_rest : (#[.slice none 0 0, .slice none 0 0] ++ Array.replicate 28 (.slice none 0 0) : Array Value) = gC (.slice none 0 0) (.slice none 0 0) := rfl
theorem givenBytes_e (gb n : Nat) (v : Value) (f : Nat → Nat) (w : World) (hn : n ≤ 140737488355328) (hv : Sl w v n f) (hg : Blk w gb (gC (.slice none 0 0) (.slice none 0 0)) 39) :
    Calls Tryd.prog 9 #[.pointer (some ⟨gb, 0, none⟩), v] w fun e w' => ∃ o, e = .returned (.slice (some ⟨o, 0, none⟩) n (n + 3)) ∧ Bs w' o 0 n f ∧ GI w' gb w.heap.size w'.heap.size ∧ Chg w w' [gb] := by
  have hf := sl_lt hv
  refine (GivenBytes_1 gb n v f (Array.replicate 28 (.slice none 0 0)) w hn hv (by rw [gC_rest]; exact hg)).mono ?_
  rintro e x2 ⟨r, rfl, o, la, lb, x, rfl, k, ho, bo, ox, ola, olb, bg⟩
  obtain ⟨lg, lc, rfl, p1, p2, cl⟩ := ola.form
  obtain ⟨mg, mc, rfl, p3, p4, cr⟩ := olb.form
  obtain ⟨xg, xc, rfl, p5, _, _, bx⟩ := ox.form (by omega)
  refine ⟨o, rfl, ⟨bo.lt, hf, fun i hi => ?_⟩, ⟨n + 3, o, lg, lc, mg, mc, xg, xc, gvf f n, by omega, fun i _ => gvf_lt hf i, by unfold gC; exact bg, cl, cr, bo, bx, ⟨ho, bo.lt⟩, ⟨p1, p2⟩, ⟨p3, p4⟩, ⟨p5, bx.lt⟩, bg.lt, Nat.le_refl _⟩, k⟩
  rw [Nat.zero_add, bo.cell, yC_get _ _ _ (by omega)]
  unfold gvf
  rw [if_pos hi]
theorem zGivenB : #[Value.slice none 0 0, .slice none 0 0, .slice none 0 0, .slice none 0 0, .slice none 0 0, .slice none 0 0, .slice none 0 0, .slice none 0 0, .slice none 0 0, .slice none 0 0, .slice none 0 0, .slice none 0 0, .slice none 0 0, .slice none 0 0, .slice none 0 0, .slice none 0 0, .slice none 0 0, .slice none 0 0, .slice none 0 0, .slice none 0 0, .slice none 0 0, .slice none 0 0, .slice none 0 0, .slice none 0 0, .slice none 0 0, .slice none 0 0, .slice none 0 0, .slice none 0 0, .slice none 0 0, .slice none 0 0] = gC (.slice none 0 0) (.slice none 0 0) := by kernel_rfl
end Go.Proofs.YtjcgjhncdaplcaaDoor
