/- A book that holds lists of scalars and lists of ints, all apart from one another; Apart of it. -/
import Derived.Test.YtcdgkhejbdlapabBkPI
import Derived.Test.YtcdgkhejbdlapabBkAIS
set_option linter.unusedVariables false
set_option linter.unusedSimpArgs false
set_option linter.unnecessarySimpa false
namespace Go.Proofs.Ytcdgkhejbdlapab
open Go.RowKit N

/-- K lists of scalars, each full, in blocks of L, no two in one. -/
def SP (w : World) (v : Value) (bx bo : Nat) (L : List Nat) (K : Nat) : Prop := ∃ (o N : Nat → Nat) (F : Nat → Nat → List Value) (vs : List Value), w.ownsRow bx 52 1 v K vs ∧
  (∀ j, j < K → vs[j]? = some (.slice (some ⟨o j, 0, none⟩) (N j) (N j)) ∧ (0 < N j ∧ N j ≤ 4398046510976) ∧ Blk w (o j) (rL 32 (N j) (F j)).toArray 23 ∧ Rok 32 (N j) (F j) ∧ bo ≤ o j ∧ o j ∈ L) ∧
  (∀ i j, i < K → j < K → ¬ i = j → ¬ o i = o j)
/-- K lists of ints likewise. -/
def IP (w : World) (v : Value) (bx bo : Nat) (L : List Nat) (K : Nat) : Prop := ∃ (o N : Nat → Nat) (F : Nat → Nat → Int) (vs : List Value), w.ownsRow bx 46 1 v K vs ∧
  (∀ j, j < K → vs[j]? = some (.slice (some ⟨o j, 0, none⟩) (N j) (N j)) ∧ (0 < N j ∧ N j ≤ 4398046510976) ∧ Blk w (o j) (iC (N j) (F j)) 3 ∧ bo ≤ o j ∧ o j ∈ L) ∧
  (∀ i j, i < K → j < K → ¬ i = j → ¬ o i = o j)
/-- No block of scalars, of ints or of lists of them among l. -/
def Fr (w : World) (T : TypeId) (l : List Nat) : Prop := ∀ z C, Blk w z C T → ¬ z ∈ l
theorem Fr.nil (w : World) (T : TypeId) : Fr w T [] := fun _ _ _ h => by simp at h
theorem SP.chg {w w' : World} {v : Value} {bx bo : Nat} {L l : List Nat} {K : Nat} (h : SP w v bx bo L K) (hc : Chg w w' l) (h1 : Fr w 23 l) (h2 : Fr w 52 l) : SP w' v bx bo L K := by
  obtain ⟨o, N, F, vs, a1, a2, a3⟩ := h
  exact ⟨o, N, F, vs, ownsRow_chg a1 hc (fun k hk => by obtain ⟨C, hC⟩ := ownsRow_blk a1 hk; exact h2 k C hC), fun j hj => ⟨(a2 j hj).1, (a2 j hj).2.1, (a2 j hj).2.2.1.chg hc (h1 _ _ (a2 j hj).2.2.1), (a2 j hj).2.2.2⟩, a3⟩
theorem IP.chg {w w' : World} {v : Value} {bx bo : Nat} {L l : List Nat} {K : Nat} (h : IP w v bx bo L K) (hc : Chg w w' l) (h1 : Fr w 3 l) (h2 : Fr w 46 l) : IP w' v bx bo L K := by
  obtain ⟨o, N, F, vs, a1, a2, a3⟩ := h
  exact ⟨o, N, F, vs, ownsRow_chg a1 hc (fun k hk => by obtain ⟨C, hC⟩ := ownsRow_blk a1 hk; exact h2 k C hC), fun j hj => ⟨(a2 j hj).1, (a2 j hj).2.1, (a2 j hj).2.2.1.chg hc (h1 _ _ (a2 j hj).2.2.1), (a2 j hj).2.2.2⟩, a3⟩
/-- The book in block gb: K lists of scalars, J lists of ints. -/
def BkT (w : World) (gb bx bo : Nat) (L M : List Nat) (K J : Nat) : Prop := ∃ B : Nat → Value, (∀ q, q < 21 → ¬ q = 1 → ¬ q = 4 → B q = .slice none 0 0) ∧ Blk w gb (bkC B) 75 ∧ bx ≤ gb ∧ SP w (B 4) bx bo L K ∧ IP w (B 1) bx bo M J
theorem BkT.chg {w w' : World} {gb bx bo : Nat} {L M : List Nat} {K J : Nat} (h : BkT w gb bx bo L M K J) (hc : Chg w w' []) : BkT w' gb bx bo L M K J := by
  obtain ⟨B, h1, h2, h3, h4, h5⟩ := h
  exact ⟨B, h1, h2.chg hc (by simp), h3, h4.chg hc (Fr.nil _ _) (Fr.nil _ _), h5.chg hc (Fr.nil _ _) (Fr.nil _ _)⟩
theorem BkT.zero {w : World} {gb bx bo : Nat} {B : Nat → Value} (hB : ∀ q, q < 21 → B q = .slice none 0 0) (h : Blk w gb (bkC B) 75) (hb : bx ≤ gb) : BkT w gb bx bo [] [] 0 0 :=
  ⟨B, fun q h1 _ _ => hB q h1, h, hb, ⟨fun _ => 0, fun _ => 0, fun _ _ => [], [], by rw [hB 4 (by decide)]; exact World.ownsRow_nil _ _ _ _, fun j hj => absurd hj (by omega), fun i j hi _ => absurd hi (by omega)⟩,
    ⟨fun _ => 0, fun _ => 0, fun _ _ => 0, [], by rw [hB 1 (by decide)]; exact World.ownsRow_nil _ _ _ _, fun j hj => absurd hj (by omega), fun i j hi _ => absurd hi (by omega)⟩⟩
/-- The blocks that a step of the book writes: neither scalars nor ints. -/
def FrB (w : World) (bx : Nat) (l : List Nat) : Prop := (∀ y, y ∈ l → bx ≤ y) ∧ Fr w 23 l ∧ Fr w 3 l
set_option maxHeartbeats 4000000 in
set_option maxRecDepth 100000 in
theorem BookScalars_0 (gb : Nat) (p : Option Addr) (c : Nat) (w : World) : Calls Try.prog 32 #[.pointer (some ⟨gb, 0, none⟩), .slice p 0 c] w fun e w' => e = .returned (.tuple #[]) ∧ w' = w := by
  go_enter Try.func32, Try.ntmps32
  go_wp2_with fail
  go_end0
  exact ⟨rfl, rfl⟩
set_option maxRecDepth 100000 in
/-- What Book.Scalars leaves. -/
theorem BkT.addS {w : World} {gb bx bo : Nat} {L M : List Nat} {K J : Nat} (h : BkT w gb bx bo L M K J) (hK : K ≤ 1000) {x n : Nat} {G : Nat → List Value} (hn : 0 < n ∧ n ≤ 4398046510976) (hx : Blk w x (rL 32 n G).toArray 23) (hG : Rok 32 n G) (hbx : bo ≤ x) (hfr : ¬ x ∈ L) :
    Calls Try.prog 32 #[.pointer (some ⟨gb, 0, none⟩), .slice (some ⟨x, 0, none⟩) n n] w fun e w' => e = .returned (.tuple #[]) ∧ BkT w' gb bx bo (x :: L) M (K + 1) J ∧ ∃ l, Chg w w' l ∧ FrB w bx l := by
  obtain ⟨B, h1, h2, h3, h4, h5⟩ := h
  obtain ⟨o, N, F, vs, a1, a2, a3⟩ := h4
  have bsz : bx ≤ w.heap.size := Nat.le_trans h3 (Nat.le_of_lt h2.lt)
  have hvl : vs.length = K := by have q := a1.1; simpa using q
  refine (BookScalars_s gb bx K x n n B vs hK hn.1 w bsz h2 a1).mono ?_
  rintro e w' ⟨rfl, lg, lc, hat, q1, q2, q3⟩
  have far : ∀ T, T ≠ 75 → T ≠ 52 → Fr w T (gb :: ob (B 4)) := fun T hT1 hT2 z C hz hm => by
    rcases List.mem_cons.1 hm with e | hm
    · exact hz.ne h2 hT1 e
    · obtain ⟨C', hC'⟩ := ownsRow_blk a1 hm
      exact hz.ne hC' hT2 rfl
  refine ⟨rfl, ⟨upV B 4 (.slice (some ⟨lg, 0, none⟩) (K + 1) lc), fun q hq h1' h4' => ?_, q1, h3, ⟨fun j => if j = K then x else o j, fun j => if j = K then n else N j, fun j => if j = K then G else F j, vs ++ [.slice (some ⟨x, 0, none⟩) n n], ?_, ?_, ?_⟩, ?_⟩, _, q3, ?_, far _ (by decide) (by decide), far _ (by decide) (by decide)⟩
  · rw [upV_other _ _ _ _ h4']
    exact h1 q hq h1' h4'
  · rw [upV_same]; exact q2
  · intro j hj
    by_cases hjk : j = K
    · subst hjk
      simp only [if_true]
      exact ⟨by rw [List.getElem?_append_right (by omega), hvl]; simp, hn, hx.chg q3 (far _ (by decide) (by decide) x _ hx), hG, hbx, List.mem_cons_self ..⟩
    · have hj2 : j < K := by omega
      simp only [if_neg hjk]
      obtain ⟨k1, k2, k3, k4, k5, k6⟩ := a2 j hj2
      exact ⟨by rw [List.getElem?_append_left (by omega)]; exact k1, k2, k3.chg q3 (far _ (by decide) (by decide) _ _ k3), k4, k5, List.mem_cons_of_mem _ k6⟩
  · intro i j hi hj hne
    by_cases hik : i = K
    · subst hik
      have hji : ¬ j = i := fun e => hne e.symm
      simp only [if_true, if_neg hji]
      intro e
      exact hfr (by rw [e]; exact (a2 j (by omega)).2.2.2.2.2)
    · by_cases hjk : j = K
      · subst hjk
        simp only [if_true, if_neg hik]
        intro e
        exact hfr (by rw [← e]; exact (a2 i (by omega)).2.2.2.2.2)
      · simp only [if_neg hik, if_neg hjk]
        exact a3 i j (by omega) (by omega) hne
  · rw [upV_other _ _ _ _ (by decide)]
    exact h5.chg q3 (far _ (by decide) (by decide)) (far _ (by decide) (by decide))
  · intro y hy
    rcases List.mem_cons.1 hy with e | hy
    · omega
    · exact (a1.lt y (by unfold ob at hy; simpa using hy)).1
set_option maxRecDepth 100000 in
/-- What Book.Ints leaves. -/
theorem BkT.addI {w : World} {gb bx bo : Nat} {L M : List Nat} {K J : Nat} (h : BkT w gb bx bo L M K J) (hK : J ≤ 1000) {x n : Nat} {G : Nat → Int} (hn : 0 < n ∧ n ≤ 4398046510976) (hx : Blk w x (iC n G) 3) (hbx : bo ≤ x) (hfr : ¬ x ∈ M) :
    Calls Try.prog 33 #[.pointer (some ⟨gb, 0, none⟩), .slice (some ⟨x, 0, none⟩) n n] w fun e w' => e = .returned (.tuple #[]) ∧ BkT w' gb bx bo L (x :: M) K (J + 1) ∧ ∃ l, Chg w w' l ∧ FrB w bx l := by
  obtain ⟨B, h1, h2, h3, h4, h5⟩ := h
  obtain ⟨o, N, F, vs, a1, a2, a3⟩ := h5
  have bsz : bx ≤ w.heap.size := Nat.le_trans h3 (Nat.le_of_lt h2.lt)
  have hvl : vs.length = J := by have q := a1.1; simpa using q
  refine (BookInts_s gb bx J x n n B vs hK hn.1 w bsz h2 a1).mono ?_
  rintro e w' ⟨rfl, lg, lc, hat, q1, q2, q3⟩
  have far : ∀ T, T ≠ 75 → T ≠ 46 → Fr w T (gb :: ob (B 1)) := fun T hT1 hT2 z C hz hm => by
    rcases List.mem_cons.1 hm with e | hm
    · exact hz.ne h2 hT1 e
    · obtain ⟨C', hC'⟩ := ownsRow_blk a1 hm
      exact hz.ne hC' hT2 rfl
  refine ⟨rfl, ⟨upV B 1 (.slice (some ⟨lg, 0, none⟩) (J + 1) lc), fun q hq h1' h4' => ?_, q1, h3, ?_, ⟨fun j => if j = J then x else o j, fun j => if j = J then n else N j, fun j => if j = J then G else F j, vs ++ [.slice (some ⟨x, 0, none⟩) n n], ?_, ?_, ?_⟩⟩, _, q3, ?_, far _ (by decide) (by decide), far _ (by decide) (by decide)⟩
  · rw [upV_other _ _ _ _ h1']
    exact h1 q hq h1' h4'
  · rw [upV_other _ _ _ _ (by decide)]
    exact h4.chg q3 (far _ (by decide) (by decide)) (far _ (by decide) (by decide))
  · rw [upV_same]; exact q2
  · intro j hj
    by_cases hjk : j = J
    · subst hjk
      simp only [if_true]
      exact ⟨by rw [List.getElem?_append_right (by omega), hvl]; simp, hn, hx.chg q3 (far _ (by decide) (by decide) x _ hx), hbx, List.mem_cons_self ..⟩
    · have hj2 : j < J := by omega
      simp only [if_neg hjk]
      obtain ⟨k1, k2, k3, k5, k6⟩ := a2 j hj2
      exact ⟨by rw [List.getElem?_append_left (by omega)]; exact k1, k2, k3.chg q3 (far _ (by decide) (by decide) _ _ k3), k5, List.mem_cons_of_mem _ k6⟩
  · intro i j hi hj hne
    by_cases hik : i = J
    · subst hik
      have hji : ¬ j = i := fun e => hne e.symm
      simp only [if_true, if_neg hji]
      intro e
      exact hfr (by rw [e]; exact (a2 j (by omega)).2.2.2.2)
    · by_cases hjk : j = J
      · subst hjk
        simp only [if_true, if_neg hik]
        intro e
        exact hfr (by rw [← e]; exact (a2 i (by omega)).2.2.2.2)
      · simp only [if_neg hik, if_neg hjk]
        exact a3 i j (by omega) (by omega) hne
  · intro y hy
    rcases List.mem_cons.1 hy with e | hy
    · omega
    · exact (a1.lt y (by unfold ob at hy; simpa using hy)).1
set_option maxRecDepth 100000 in
/-- Apart of such a book. -/
theorem BkT.apart {w : World} {gb bx bo : Nat} {L M : List Nat} {K J : Nat} (h : BkT w gb bx bo L M K J) (hK : K ≤ 1000) (hJ : J ≤ 1000) : Calls Try.prog 34 #[.pointer (some ⟨gb, 0, none⟩)] w fun e w' => e = .returned (.bool true) ∧ ∃ l, Chg w w' l ∧ ∀ y, y ∈ l → bo ≤ y := by
  obtain ⟨B, h1, h2, h3, ⟨o, N, F, vs, a1, a2, a3⟩, ⟨o', N', F', vs', b1, b2, b3⟩⟩ := h
  have g1 : ¬ gb ∈ os o' J := fun hm => by
    obtain ⟨j, hj, e⟩ := mem_os hm
    exact (b2 j hj).2.2.1.ne h2 (by decide) e
  have g2 : ¬ gb ∈ os o K := fun hm => by
    obtain ⟨j, hj, e⟩ := mem_os hm
    exact (a2 j hj).2.2.1.ne h2 (by decide) e
  have fr : ∀ T, T ≠ 3 → Fr w T (os o' J) := fun T hT z C hz hm => by
    obtain ⟨j, hj, e⟩ := mem_os hm
    exact (b2 j hj).2.2.1.ne hz (fun q => hT q.symm) e
  refine (Apart_IS gb B 75 (os o' J) (os o K) h1 g1 g2 w h2 ?_ ?_).mono fun e w' ⟨he, hc⟩ => ⟨he, _, hc, fun y hy => ?_⟩
  · intro w' hc hb
    rcases b1.2 with ⟨e3, hK0⟩ | ⟨lg, lc, cur, hB, hb1, hg, hcap, hrest⟩
    · subst hK0
      exact (apartInts_nil gb B _ e3 w' hb).mono fun e w'' ⟨he, hc⟩ => ⟨he, hc.wide⟩
    · have b1' := b1
      rw [hB] at b1'
      obtain ⟨C, hC⟩ := ownsRow_blk b1 (k := lg) (by rw [hB, ob_slice]; simp)
      refine apartInts_s gb lg lc J B _ o' N' F' hJ (fun j hj => (b2 j hj).2.1) hB hcap w' hb (fun j hj => cell_l (ownsRow_cell b1' (b2 j hj).1) hc (by simp)) (Nat.lt_of_lt_of_le hC.lt hc.size) ?_ (fun j hj => (b2 j hj).2.2.1.chg hc (by simp)) b3
      intro j hj e
      exact (b2 j hj).2.2.1.ne hC (by decide) e.symm
  · intro w' hc hb
    rcases a1.2 with ⟨e3, hK0⟩ | ⟨lg, lc, cur, hB, hb1, hg, hcap, hrest⟩
    · subst hK0
      exact (apartScalars_nil gb B _ e3 w' hb).mono fun e w'' ⟨he, hc⟩ => ⟨he, hc.wide⟩
    · have a1' := a1
      rw [hB] at a1'
      obtain ⟨C, hC⟩ := ownsRow_blk a1 (k := lg) (by rw [hB, ob_slice]; simp)
      refine apartScalars_s gb lg lc K B _ o N F hK (fun j hj => (a2 j hj).2.1) hB hcap w' hb (fun j hj => cell_l (ownsRow_cell a1' (a2 j hj).1) hc (fr _ (by decide) _ _ hC)) (Nat.lt_of_lt_of_le hC.lt hc.size) ?_ (fun j hj => (a2 j hj).2.2.1.chg hc (fr _ (by decide) _ _ (a2 j hj).2.2.1)) (fun j hj => (a2 j hj).2.2.2.1) a3
      intro j hj e
      exact (a2 j hj).2.2.1.ne hC (by decide) e.symm
  · rcases List.mem_append.1 hy with hm | hm
    · obtain ⟨j, hj, e⟩ := mem_os hm
      have := (b2 j hj).2.2.2.1
      omega
    · obtain ⟨j, hj, e⟩ := mem_os hm
      have := (a2 j hj).2.2.2.2.1
      omega
end Go.Proofs.Ytcdgkhejbdlapab
