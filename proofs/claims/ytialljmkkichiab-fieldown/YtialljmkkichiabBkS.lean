/- A book that holds lists of numbers, apart from one another; Apart of it; CopyFes of any list. -/
import Derived.Test.YtialljmkkichiabBkP
import Derived.Test.YtialljmkkichiabBkAFes
import Derived.Test.YtialljmkkichiabFInvC
set_option linter.unusedVariables false
set_option linter.unusedSimpArgs false
set_option linter.unnecessarySimpa false
namespace Go.Proofs.Ytialljmkkichiab
open Go.RowKit N

set_option maxHeartbeats 4000000 in
set_option maxRecDepth 100000 in
theorem BookFes_0 (gb : Nat) (p : Option Addr) (c : Nat) (w : World) : Calls Try.prog 32 #[.pointer (some ⟨gb, 0, none⟩), .slice p 0 c] w fun e w' => e = .returned (.tuple #[]) ∧ w' = w := by
  go_enter Try.func32, Try.ntmps32
  go_wp2_with fail
  go_end0
  exact ⟨rfl, rfl⟩
/-- K lists of a book in block gb, the list of them the call's own, all blocks at bx and behind. -/
def BkS (w : World) (gb bx bo K : Nat) : Prop := ∃ (B : Nat → Value) (o N : Nat → Nat) (F : Nat → Nat → List Value) (vs : List Value),
  (∀ q, q < 21 → ¬ q = 3 → B q = .slice none 0 0) ∧ Blk w gb (bkC B) 75 ∧ bx ≤ gb ∧ w.ownsRow bx 52 1 (B 3) K vs ∧
  (∀ j, j < K → vs[j]? = some (.slice (some ⟨o j, 0, none⟩) (N j) (N j)) ∧ (0 < N j ∧ N j ≤ 4398046510976) ∧ Blk w (o j) (rL 32 (N j) (F j)).toArray 23 ∧ Rok 32 (N j) (F j) ∧ bo ≤ o j) ∧
  (∀ i j, i < K → j < K → ¬ i = j → ¬ o i = o j)
theorem BkS.chg {w w' : World} {gb bx bo K : Nat} (h : BkS w gb bx bo K) (hc : Chg w w' []) : BkS w' gb bx bo K := by
  obtain ⟨B, o, N, F, vs, h1, h2, h3, h4, h5, h6⟩ := h
  exact ⟨B, o, N, F, vs, h1, h2.chg hc (by simp), h3, ownsRow_chg h4 hc (by simp), fun j hj => ⟨(h5 j hj).1, (h5 j hj).2.1, (h5 j hj).2.2.1.chg hc (by simp), (h5 j hj).2.2.2⟩, h6⟩
theorem BkS.zero {w : World} {gb bx bo : Nat} {B : Nat → Value} (hB : ∀ q, q < 21 → B q = .slice none 0 0) (h : Blk w gb (bkC B) 75) (hb : bx ≤ gb) : BkS w gb bx bo 0 :=
  ⟨B, fun _ => 0, fun _ => 0, fun _ _ => [], [], fun q h1 _ => hB q h1, h, hb, by rw [hB 3 (by decide)]; exact World.ownsRow_nil _ _ _ _, fun j hj => absurd hj (by omega), fun i j hi _ => absurd hi (by omega)⟩
set_option maxRecDepth 100000 in
/-- What Book.Fes leaves. -/
theorem BkS.add {w : World} {gb bx bo K : Nat} (hK : K ≤ 1000) {x n : Nat} {G : Nat → List Value} (hn : 0 < n ∧ n ≤ 4398046510976) (hx : Blk w x (rL 32 n G).toArray 23) (hG : Rok 32 n G) (hbx : bo ≤ x) (hfr : ∃ w0, BkS w0 gb bx bo K ∧ Chg w0 w [] ∧ w0.heap.size ≤ x) :
    Calls Try.prog 32 #[.pointer (some ⟨gb, 0, none⟩), .slice (some ⟨x, 0, none⟩) n n] w fun e w' => e = .returned (.tuple #[]) ∧ BkS w' gb bx bo (K + 1) ∧ ∃ l, Chg w w' l ∧ (∀ y, y ∈ l → bx ≤ y) ∧ ∀ z C, Blk w z C 23 → ¬ z ∈ l := by
  obtain ⟨w0, hS0, hc0, hx0⟩ := hfr
  obtain ⟨B, o, N, F, vs, h1, h2, h3, h4, h5, h6⟩ := hS0
  have hlt : ∀ j, j < K → o j < w0.heap.size := fun j hj => (h5 j hj).2.2.1.lt
  have g2 := h2.chg hc0 (by simp)
  have g4 := ownsRow_chg h4 hc0 (by simp)
  have bsz : bx ≤ w.heap.size := Nat.le_trans h3 (Nat.le_of_lt g2.lt)
  have hvl : vs.length = K := by have q := h4.1; simpa using q
  refine (BookFes_s gb bx K x n n B vs hK hn.1 w bsz g2 g4).mono ?_
  rintro e w' ⟨rfl, lg, lc, hat, q1, q2, q3⟩
  have far : ∀ z C, Blk w z C 23 → ¬ z ∈ gb :: ob (B 3) := fun z C hz hm => by
    rcases List.mem_cons.1 hm with e | hm
    · exact hz.ne g2 (by decide) e
    · obtain ⟨C', hC'⟩ := ownsRow_blk g4 hm
      exact hz.ne hC' (by decide) rfl
  refine ⟨rfl, ⟨upV B 3 (.slice (some ⟨lg, 0, none⟩) (K + 1) lc), fun j => if j = K then x else o j, fun j => if j = K then n else N j, fun j => if j = K then G else F j, vs ++ [.slice (some ⟨x, 0, none⟩) n n], ?_, q1, h3, ?_, ?_, ?_⟩, _, q3, ?_, far⟩
  · intro q hq h
    rw [upV_other _ _ _ _ h]
    exact h1 q hq h
  · rw [upV_same]; exact q2
  · intro j hj
    by_cases hjk : j = K
    · subst hjk
      simp only [if_true]
      exact ⟨by rw [List.getElem?_append_right (by omega), hvl]; simp, hn, hx.chg q3 (far x _ hx), hG, hbx⟩
    · have hj2 : j < K := by omega
      simp only [if_neg hjk]
      obtain ⟨k1, k2, k3, k4, k5⟩ := h5 j hj2
      have k3' := k3.chg hc0 (by simp)
      exact ⟨by rw [List.getElem?_append_left (by omega)]; exact k1, k2, k3'.chg q3 (far _ _ k3'), k4, k5⟩
  · intro i j hi hj hne
    by_cases hik : i = K
    · subst hik
      have hji : ¬ j = i := fun e => hne e.symm
      simp only [if_true, if_neg hji]
      have := hlt j (by omega)
      omega
    · by_cases hjk : j = K
      · subst hjk
        simp only [if_true, if_neg hik]
        have := hlt i (by omega)
        omega
      · simp only [if_neg hik, if_neg hjk]
        exact h6 i j (by omega) (by omega) hne
  · intro y hy
    rcases List.mem_cons.1 hy with e | hy
    · omega
    · exact (g4.lt y (by unfold ob at hy; simpa using hy)).1
set_option maxRecDepth 100000 in
/-- Apart of such a book. -/
theorem BkS.apart {w : World} {gb bx bo K : Nat} (h : BkS w gb bx bo K) (hK : K ≤ 1000) : Calls Try.prog 34 #[.pointer (some ⟨gb, 0, none⟩)] w fun e w' => e = .returned (.bool true) ∧ ∃ o : Nat → Nat, Chg w w' (os o K) ∧ ∀ j, j < K → bo ≤ o j := by
  obtain ⟨B, o, N, F, vs, h1, h2, h3, h4, h5, h6⟩ := h
  have hng : ¬ gb ∈ os o K := fun hm => by
    obtain ⟨j, hj, e⟩ := mem_os hm
    exact (h5 j hj).2.2.1.ne h2 (by decide) e
  refine (Apart_Fes gb B 75 (os o K) h1 hng w h2 ?_).mono fun e w' ⟨he, hc⟩ => ⟨he, o, hc, fun j hj => (h5 j hj).2.2.2.2⟩
  intro w' hc hb
  rcases h4.2 with ⟨e3, hK0⟩ | ⟨lg, lc, cur, hB, hb1, hg, hcap, hrest⟩
  · subst hK0
    exact (apartFes_nil gb B _ e3 w' hb).mono fun e w'' ⟨he, hc⟩ => ⟨he, hc.wide⟩
  · have h4' := h4
    rw [hB] at h4'
    have hlt : lg < w.heap.size := by obtain ⟨C, hC⟩ := ownsRow_blk h4 (k := lg) (by rw [hB, ob_slice]; simp); exact hC.lt
    refine apartFes_s gb lg lc K B _ o N F hK (fun j hj => (h5 j hj).2.1) hB hcap w' hb (fun j hj => cell_l (ownsRow_cell h4' (h5 j hj).1) hc (by simp)) (Nat.lt_of_lt_of_le hlt hc.size) ?_ (fun j hj => (h5 j hj).2.2.1.chg hc (by simp)) (fun j hj => (h5 j hj).2.2.2.1) h6
    intro j hj e
    obtain ⟨C, hC⟩ := ownsRow_blk h4 (k := lg) (by rw [hB, ob_slice]; simp)
    exact (h5 j hj).2.2.1.ne hC (by decide) e.symm
end Go.Proofs.Ytialljmkkichiab
