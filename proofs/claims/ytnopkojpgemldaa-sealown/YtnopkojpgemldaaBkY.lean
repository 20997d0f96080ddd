/- A book that holds lists of bytes, apart from one another; Apart of it. -/
import Derived.Test.YtnopkojpgemldaaBkPB
import Derived.Test.YtnopkojpgemldaaBkABytes
set_option linter.unusedVariables false
set_option linter.unusedSimpArgs false
set_option linter.unnecessarySimpa false
namespace Go.Proofs.Ytnopkojpgemldaa
open Go.RowKit

theorem Own.bl {w : World} {base : Nat} {v : Value} {n : Nat} {f : Nat → Nat} (h : Own w base v n f) (hn : 0 < n) : ∃ g cap, v = .slice (some ⟨g, 0, none⟩) n cap ∧ base ≤ g ∧ BL w g n cap f := by
  rcases h.1.2 with ⟨_, h0⟩ | ⟨g, cap, cur, rfl, hb, hg, h1, h2, h3, h4⟩
  · omega
  · refine ⟨g, cap, rfl, hb, cur, hg, by omega, h1, by simpa [maxLen] using h2, fun r hr => ?_⟩
    have q := congrArg (fun l => l[r]?) h4
    simp only [yL_get _ _ _ hr] at q
    rw [List.getElem?_take] at q
    split at q
    · simpa using q
    · cases q
theorem Blk.bl {w : World} {z n : Nat} {f : Nat → Nat} (h : Blk w z (yC n f) 5) (hn : n ≤ 9223372036854775807) : BL w z n n f :=
  ⟨_, h, by rw [yC_size], Nat.le_refl _, by omega, fun r hr => yC_get n f r hr⟩
/-- The book in block gb: K lists of bytes in blocks of L. -/
def BkY (w : World) (gb bx bo : Nat) (L : List Nat) (K : Nat) : Prop := ∃ (B : Nat → Value) (o N c : Nat → Nat) (F : Nat → Nat → Nat) (vs : List Value), (∀ q, q < 21 → ¬ q = 0 → B q = .slice none 0 0) ∧ Blk w gb (bkC B) 77 ∧ bx ≤ gb ∧ w.ownsRow bx 26 1 (B 0) K vs ∧
  (∀ j, j < K → vs[j]? = some (.slice (some ⟨o j, 0, none⟩) (N j) (c j)) ∧ (0 < N j ∧ N j ≤ 140737488355280) ∧ BL w (o j) (N j) (c j) (F j) ∧ bo ≤ o j ∧ o j ∈ L) ∧
  (∀ i j, i < K → j < K → ¬ i = j → ¬ o i = o j)
theorem BkY.chg {w w' : World} {gb bx bo : Nat} {L : List Nat} {K : Nat} (h : BkY w gb bx bo L K) (hc : Chg w w' []) : BkY w' gb bx bo L K := by
  obtain ⟨B, o, N, c, F, vs, h1, h2, h3, h4, h5, h6⟩ := h
  exact ⟨B, o, N, c, F, vs, h1, h2.chg hc (by simp), h3, ownsRow_chg h4 hc (by simp), fun j hj => ⟨(h5 j hj).1, (h5 j hj).2.1, (h5 j hj).2.2.1.chg hc (by simp), (h5 j hj).2.2.2⟩, h6⟩
theorem BkY.zero {w : World} {gb bx bo : Nat} {B : Nat → Value} (hB : ∀ q, q < 21 → B q = .slice none 0 0) (h : Blk w gb (bkC B) 77) (hb : bx ≤ gb) : BkY w gb bx bo [] 0 :=
  ⟨B, fun _ => 0, fun _ => 0, fun _ => 0, fun _ _ => 0, [], fun q h1 _ => hB q h1, h, hb, by rw [hB 0 (by decide)]; exact World.ownsRow_nil _ _ _ _, fun j hj => absurd hj (by omega), fun i j hi _ => absurd hi (by omega)⟩
/-- No block of type T among l. -/
def Fr (w : World) (T : TypeId) (l : List Nat) : Prop := ∀ z C, Blk w z C T → ¬ z ∈ l
set_option maxHeartbeats 4000000 in
set_option maxRecDepth 100000 in
theorem BookBytes_0 (gb : Nat) (p : Option Addr) (c : Nat) (w : World) : Calls Try.prog 23 #[.pointer (some ⟨gb, 0, none⟩), .slice p 0 c] w fun e w' => e = .returned (.tuple #[]) ∧ w' = w := by
  go_enter Try.func23, Try.ntmps23
  go_wp2_with fail
  go_end0
  exact ⟨rfl, rfl⟩
set_option maxRecDepth 100000 in
/-- What Book.Bytes leaves. -/
theorem BkY.add {w : World} {gb bx bo : Nat} {L : List Nat} {K : Nat} (h : BkY w gb bx bo L K) (hK : K ≤ 1000) {x n d : Nat} {G : Nat → Nat} (hn : n ≤ 140737488355280) (hx : BL w x n d G) (hbx : bo ≤ x) (hfr : ¬ x ∈ L) :
    Calls Try.prog 23 #[.pointer (some ⟨gb, 0, none⟩), .slice (some ⟨x, 0, none⟩) n d] w fun e w' => e = .returned (.tuple #[]) ∧ (∃ K', K' ≤ K + 1 ∧ BkY w' gb bx bo (x :: L) K') ∧ ∃ l, Chg w w' l ∧ (∀ y, y ∈ l → bx ≤ y) ∧ ∀ T, T ≠ 77 → T ≠ 26 → Fr w T l := by
  obtain ⟨B, o, N, c, F, vs, h1, h2, h3, h4, h5, h6⟩ := h
  by_cases h0 : 0 < n
  · have bsz : bx ≤ w.heap.size := Nat.le_trans h3 (Nat.le_of_lt h2.lt)
    have hvl : vs.length = K := by have q := h4.1; simpa using q
    refine (BookBytes_s gb bx K x n d B vs hK h0 w bsz h2 h4).mono ?_
    rintro e w' ⟨rfl, lg, lc, hat, q1, q2, q3⟩
    have far : ∀ T, T ≠ 77 → T ≠ 26 → Fr w T (gb :: ob (B 0)) := fun T hT1 hT2 z C hz hm => by
      rcases List.mem_cons.1 hm with e | hm
      · exact hz.ne h2 hT1 e
      · obtain ⟨C', hC'⟩ := ownsRow_blk h4 hm
        exact hz.ne hC' hT2 rfl
    have bfar : ∀ y n c f, BL w y n c f → BL w' y n c f := fun y n c f hb => hb.chg q3 (by obtain ⟨C, hC, _⟩ := hb; exact far _ (by decide) (by decide) _ _ hC)
    refine ⟨rfl, ⟨K + 1, Nat.le_refl _, upV B 0 (.slice (some ⟨lg, 0, none⟩) (K + 1) lc), fun j => if j = K then x else o j, fun j => if j = K then n else N j, fun j => if j = K then d else c j, fun j => if j = K then G else F j, vs ++ [.slice (some ⟨x, 0, none⟩) n d], fun q hq h0' => ?_, q1, h3, ?_, ?_, ?_⟩, _, q3, ?_, far⟩
    · rw [upV_other _ _ _ _ h0']
      exact h1 q hq h0'
    · rw [upV_same]; exact q2
    · intro j hj
      by_cases hjk : j = K
      · subst hjk
        simp only [if_true]
        exact ⟨by rw [List.getElem?_append_right (by omega), hvl]; simp, ⟨h0, hn⟩, bfar _ _ _ _ hx, hbx, List.mem_cons_self ..⟩
      · have hj2 : j < K := by omega
        simp only [if_neg hjk]
        obtain ⟨k1, k2, k3, k5, k6⟩ := h5 j hj2
        exact ⟨by rw [List.getElem?_append_left (by omega)]; exact k1, k2, bfar _ _ _ _ k3, k5, List.mem_cons_of_mem _ k6⟩
    · intro i j hi hj hne
      by_cases hik : i = K
      · subst hik
        have hji : ¬ j = i := fun e => hne e.symm
        simp only [if_true, if_neg hji]
        intro e
        exact hfr (by rw [e]; exact (h5 j (by omega)).2.2.2.2)
      · by_cases hjk : j = K
        · subst hjk
          simp only [if_true, if_neg hik]
          intro e
          exact hfr (by rw [← e]; exact (h5 i (by omega)).2.2.2.2)
        · simp only [if_neg hik, if_neg hjk]
          exact h6 i j (by omega) (by omega) hne
    · intro y hy
      rcases List.mem_cons.1 hy with e | hy
      · omega
      · exact (h4.lt y (by unfold ob at hy; simpa using hy)).1
  · obtain rfl : n = 0 := by omega
    refine (BookBytes_0 gb _ d w).mono ?_
    rintro e w' ⟨rfl, rfl⟩
    exact ⟨rfl, ⟨K, by omega, B, o, N, c, F, vs, h1, h2, h3, h4, fun j hj => ⟨(h5 j hj).1, (h5 j hj).2.1, (h5 j hj).2.2.1, (h5 j hj).2.2.2.1, List.mem_cons_of_mem _ (h5 j hj).2.2.2.2⟩, h6⟩, [], Chg.refl _ _, fun y hy => by simp at hy, fun T _ _ z C _ hz => by simp at hz⟩
set_option maxRecDepth 100000 in
/-- Apart of such a book. -/
theorem BkY.apart {w : World} {gb bx bo : Nat} {L : List Nat} {K : Nat} (h : BkY w gb bx bo L K) (hK : K ≤ 1000) : Calls Try.prog 24 #[.pointer (some ⟨gb, 0, none⟩)] w fun e w' => e = .returned (.bool true) ∧ ∃ l, Chg w w' l ∧ (∀ y, y ∈ l → bo ≤ y) ∧ ∀ T, T ≠ 5 → Fr w T l := by
  obtain ⟨B, o, N, c, F, vs, h1, h2, h3, h4, h5, h6⟩ := h
  have fr : ∀ T, T ≠ 5 → Fr w T (os o K) := fun T hT z C hz hm => by
    obtain ⟨j, hj, e⟩ := mem_os hm
    obtain ⟨C', hC', _⟩ := (h5 j hj).2.2.1
    exact hC'.ne hz (fun q => hT q.symm) e
  refine (Apart_Bytes gb B 77 (os o K) h1 (fr _ (by decide) _ _ h2) w h2 ?_).mono fun e w' ⟨he, hc⟩ => ⟨he, _, hc, fun y hy => ?_, fr⟩
  · intro w' hc hb
    rcases h4.2 with ⟨e3, hK0⟩ | ⟨lg, lc, cur, hB, hb1, hg, hcap, hrest⟩
    · subst hK0
      exact (apartBytes_nil gb B _ e3 w' hb).mono fun e w'' ⟨he, hc⟩ => ⟨he, hc.wide⟩
    · have h4' := h4
      rw [hB] at h4'
      obtain ⟨C, hC⟩ := ownsRow_blk h4 (k := lg) (by rw [hB, ob_slice]; simp)
      refine apartBytes_s gb lg lc K B _ o N c F hK (fun j hj => (h5 j hj).2.1) hB hcap w' hb (fun j hj => cell_l (ownsRow_cell h4' (h5 j hj).1) hc (by simp)) (Nat.lt_of_lt_of_le hC.lt hc.size) ?_ (fun j hj => (h5 j hj).2.2.1.chg hc (by simp)) h6
      intro j hj e
      obtain ⟨C', hC', _⟩ := (h5 j hj).2.2.1
      exact hC'.ne hC (by decide) e.symm
  · obtain ⟨j, hj, e⟩ := mem_os hy
    have := (h5 j hj).2.2.2.1
    omega
/-- Bytes of any values at the head of a block. -/
def BZ (w : World) (base : Nat) (pa : Option Addr) (n cap : Nat) : Prop := n = 0 ∨ ∃ g C, pa = some ⟨g, 0, none⟩ ∧ base ≤ g ∧ Blk w g C 5 ∧ C.size = cap ∧ n ≤ cap ∧ ∀ r, r < n → ∃ z : Int, C[r]? = some (.int .u8 z)
theorem BZ.chg {w w' : World} {base : Nat} {pa : Option Addr} {n cap : Nat} (h : BZ w base pa n cap) (hc : Chg w w' []) : BZ w' base pa n cap := by
  rcases h with h | ⟨g, C, h1, h2, h3, h4⟩
  · exact Or.inl h
  · exact Or.inr ⟨g, C, h1, h2, h3.chg hc (by simp), h4⟩
theorem Own.bz {w : World} {base : Nat} {v : Value} {n : Nat} {f : Nat → Nat} (h : Own w base v n f) : ∃ pa cap, v = .slice pa n cap ∧ BZ w base pa n cap := by
  by_cases hn : 0 < n
  · obtain ⟨g, cap, rfl, hb, C, h1, h2, h3, h4, h5⟩ := h.bl hn
    exact ⟨_, cap, rfl, Or.inr ⟨g, C, rfl, hb, h1, h2, h3, fun r hr => ⟨_, h5 r hr⟩⟩⟩
  · obtain ⟨p, c, rfl⟩ := own_len1 h
    exact ⟨p, c, rfl, Or.inl (by omega)⟩
theorem BZ.at {w : World} {base : Nat} {pa : Option Addr} {n cap i : Nat} (h : BZ w base pa n cap) (hi : i < n) : ∃ g z, pa = some ⟨g, 0, none⟩ ∧ base ≤ g ∧ g < w.heap.size ∧ (∃ C, Blk w g C 5) ∧ i < cap ∧ w.cell? ⟨g, i, none⟩ = some (.int .u8 z) ∧ w.frozen? ⟨g, i, none⟩ = false ∧ ∀ (v : Int), BZ (w.setCell ⟨g, i, none⟩ (.int .u8 v)) base pa n cap := by
  rcases h with h | ⟨g, C, h1, h2, h3, h4, h5, h6⟩
  · omega
  · obtain ⟨z, hz⟩ := h6 i hi
    refine ⟨g, z, h1, h2, h3.lt, ⟨C, h3⟩, by omega, by rw [h3.cell, hz], h3.frozen i, fun v => Or.inr ⟨g, C.setIfInBounds i (.int .u8 v), h1, h2, h3.setCell i _, by rw [Array.size_setIfInBounds]; exact h4, h5, fun r hr => ?_⟩⟩
    by_cases hri : r = i
    · subst hri
      exact ⟨v, by rw [Array.getElem?_setIfInBounds_self_of_lt (by omega)]⟩
    · obtain ⟨y, hy⟩ := h6 r hr
      exact ⟨y, by rw [Array.getElem?_setIfInBounds_ne (fun e => hri e.symm)]; exact hy⟩
theorem BZ.olds {w : World} {base zg r : Nat} (h : BZ w base (some ⟨zg, 0, none⟩) r r) : ∃ olds : List Value, olds.length = r * 1 ∧ ∀ b, (some (⟨zg, 0, none⟩ : Addr)) = some b → ∀ q u, olds[q]? = some u → w.cell? (b.add q) = some u := by
  rcases h with rfl | ⟨g, C, h1, _, h3, h4, h5, h6⟩
  · exact ⟨[], rfl, fun b _ q u hq => by simp at hq⟩
  · obtain rfl : zg = g := by simpa using h1
    refine ⟨C.toList, by simp [h4], fun b hb q u hq => ?_⟩
    cases hb
    refine add_cell ?_
    rw [Nat.zero_add, h3.cell]
    simpa using hq
end Go.Proofs.Ytnopkojpgemldaa
