/- A book that holds lists of scalars, of ints and of shares, all apart from one another; Apart of it. -/
import Derived.Test.YtledggdoehnlcaaGreatMgW
import Derived.Test.YtledggdoehnlcaaGreatBkPJ
import Derived.Test.YtledggdoehnlcaaGreatMgP
set_option linter.unusedVariables false
set_option linter.unusedSimpArgs false
set_option linter.unnecessarySimpa false
namespace Go.Proofs.YtledggdoehnlcaaGreat
open Go.RowKit N

/-- No block of type T among l. -/
def Fr (w : World) (T : TypeId) (l : List Nat) : Prop := ∀ z C, Blk w z C T → ¬ z ∈ l
theorem Fr.nil (w : World) (T : TypeId) : Fr w T [] := fun _ _ _ h => by simp at h
/-- A list of scalars, of shares: full; of ints: with room or without. -/
def ElS (w : World) (o N c : Nat) (F : Nat → List Value) : Prop := c = N ∧ Blk w o (rL 32 N F).toArray 24 ∧ Rok 32 N F
def ElH (w : World) (o N c : Nat) (F : Nat → List Value) : Prop := c = N ∧ Blk w o (rL 33 N F).toArray 28 ∧ Rok 33 N F
def ElI (w : World) (o N c : Nat) (F : Nat → Int) : Prop := BJ w o N c F
theorem ElS.blk {w : World} {o N c : Nat} {F : Nat → List Value} (h : ElS w o N c F) : ∃ C, Blk w o C 24 := ⟨_, h.2.1⟩
theorem ElH.blk {w : World} {o N c : Nat} {F : Nat → List Value} (h : ElH w o N c F) : ∃ C, Blk w o C 28 := ⟨_, h.2.1⟩
theorem ElI.blk {w : World} {o N c : Nat} {F : Nat → Int} (h : ElI w o N c F) : ∃ C, Blk w o C 3 := by obtain ⟨C, h1, _⟩ := h; exact ⟨C, h1⟩
theorem ElS.chg {w w' : World} {o N c : Nat} {F : Nat → List Value} {l : List Nat} (h : ElS w o N c F) (hc : Chg w w' l) (hl : Fr w 24 l) : ElS w' o N c F := ⟨h.1, h.2.1.chg hc (hl _ _ h.2.1), h.2.2⟩
theorem ElH.chg {w w' : World} {o N c : Nat} {F : Nat → List Value} {l : List Nat} (h : ElH w o N c F) (hc : Chg w w' l) (hl : Fr w 28 l) : ElH w' o N c F := ⟨h.1, h.2.1.chg hc (hl _ _ h.2.1), h.2.2⟩
theorem ElI.chg {w w' : World} {o N c : Nat} {F : Nat → Int} {l : List Nat} (h : ElI w o N c F) (hc : Chg w w' l) (hl : Fr w 3 l) : ElI w' o N c F := by
  obtain ⟨C, hC⟩ := h.blk
  exact BJ.chg h hc (hl _ _ hC)
/-- Lists of one kind in the book's list v. -/
def PS (w : World) (v : Value) (bx bo : Nat) (L : List Nat) (K : Nat) : Prop := ∃ (o N c : Nat → Nat) (F : Nat → Nat → List Value) (vs : List Value), w.ownsRow bx 29 1 v K vs ∧
  (∀ j, j < K → vs[j]? = some (.slice (some ⟨o j, 0, none⟩) (N j) (c j)) ∧ (0 < N j ∧ N j ≤ 1000) ∧ ElS w (o j) (N j) (c j) (F j) ∧ bo ≤ o j ∧ o j ∈ L) ∧
  (∀ i j, i < K → j < K → ¬ i = j → ¬ o i = o j)
theorem PS.chg {w w' : World} {v : Value} {bx bo : Nat} {L l : List Nat} {K : Nat} (h : PS w v bx bo L K) (hc : Chg w w' l) (h1 : Fr w 24 l) (h2 : Fr w 29 l) : PS w' v bx bo L K := by
  obtain ⟨o, N, c, F, vs, a1, a2, a3⟩ := h
  exact ⟨o, N, c, F, vs, ownsRow_chg a1 hc (fun k hk => by obtain ⟨C, hC⟩ := ownsRow_blk a1 hk; exact h2 k C hC), fun j hj => ⟨(a2 j hj).1, (a2 j hj).2.1, (a2 j hj).2.2.1.chg hc h1, (a2 j hj).2.2.2⟩, a3⟩
theorem PS.zero (w : World) (bx bo : Nat) : PS w (.slice none 0 0) bx bo [] 0 := ⟨fun _ => 0, fun _ => 0, fun _ => 0, fun _ _ => [], [], World.ownsRow_nil _ _ _ _, fun j hj => absurd hj (by omega), fun i j hi _ => absurd hi (by omega)⟩
set_option maxHeartbeats 4000000 in
set_option maxRecDepth 100000 in
theorem BookScalars_0 (gb : Nat) (p : Option Addr) (c : Nat) (w : World) : Calls Tryz.prog 18 #[.pointer (some ⟨gb, 0, none⟩), .slice p 0 c] w fun e w' => e = .returned (.tuple #[]) ∧ w' = w := by
  go_enter Tryz.func18, Tryz.ntmps18
  go_wp2_with fail
  go_end0
  exact ⟨rfl, rfl⟩
/-- Lists of one kind in the book's list v. -/
def PI (w : World) (v : Value) (bx bo : Nat) (L : List Nat) (K : Nat) : Prop := ∃ (o N c : Nat → Nat) (F : Nat → Nat → Int) (vs : List Value), w.ownsRow bx 26 1 v K vs ∧
  (∀ j, j < K → vs[j]? = some (.slice (some ⟨o j, 0, none⟩) (N j) (c j)) ∧ (0 < N j ∧ N j ≤ 1000) ∧ ElI w (o j) (N j) (c j) (F j) ∧ bo ≤ o j ∧ o j ∈ L) ∧
  (∀ i j, i < K → j < K → ¬ i = j → ¬ o i = o j)
theorem PI.chg {w w' : World} {v : Value} {bx bo : Nat} {L l : List Nat} {K : Nat} (h : PI w v bx bo L K) (hc : Chg w w' l) (h1 : Fr w 3 l) (h2 : Fr w 26 l) : PI w' v bx bo L K := by
  obtain ⟨o, N, c, F, vs, a1, a2, a3⟩ := h
  exact ⟨o, N, c, F, vs, ownsRow_chg a1 hc (fun k hk => by obtain ⟨C, hC⟩ := ownsRow_blk a1 hk; exact h2 k C hC), fun j hj => ⟨(a2 j hj).1, (a2 j hj).2.1, (a2 j hj).2.2.1.chg hc h1, (a2 j hj).2.2.2⟩, a3⟩
theorem PI.zero (w : World) (bx bo : Nat) : PI w (.slice none 0 0) bx bo [] 0 := ⟨fun _ => 0, fun _ => 0, fun _ => 0, fun _ _ => 0, [], World.ownsRow_nil _ _ _ _, fun j hj => absurd hj (by omega), fun i j hi _ => absurd hi (by omega)⟩
set_option maxHeartbeats 4000000 in
set_option maxRecDepth 100000 in
theorem BookInts_0 (gb : Nat) (p : Option Addr) (c : Nat) (w : World) : Calls Tryz.prog 19 #[.pointer (some ⟨gb, 0, none⟩), .slice p 0 c] w fun e w' => e = .returned (.tuple #[]) ∧ w' = w := by
  go_enter Tryz.func19, Tryz.ntmps19
  go_wp2_with fail
  go_end0
  exact ⟨rfl, rfl⟩
/-- Lists of one kind in the book's list v. -/
def PH (w : World) (v : Value) (bx bo : Nat) (L : List Nat) (K : Nat) : Prop := ∃ (o N c : Nat → Nat) (F : Nat → Nat → List Value) (vs : List Value), w.ownsRow bx 22 1 v K vs ∧
  (∀ j, j < K → vs[j]? = some (.slice (some ⟨o j, 0, none⟩) (N j) (c j)) ∧ (0 < N j ∧ N j ≤ 1000) ∧ ElH w (o j) (N j) (c j) (F j) ∧ bo ≤ o j ∧ o j ∈ L) ∧
  (∀ i j, i < K → j < K → ¬ i = j → ¬ o i = o j)
theorem PH.chg {w w' : World} {v : Value} {bx bo : Nat} {L l : List Nat} {K : Nat} (h : PH w v bx bo L K) (hc : Chg w w' l) (h1 : Fr w 28 l) (h2 : Fr w 22 l) : PH w' v bx bo L K := by
  obtain ⟨o, N, c, F, vs, a1, a2, a3⟩ := h
  exact ⟨o, N, c, F, vs, ownsRow_chg a1 hc (fun k hk => by obtain ⟨C, hC⟩ := ownsRow_blk a1 hk; exact h2 k C hC), fun j hj => ⟨(a2 j hj).1, (a2 j hj).2.1, (a2 j hj).2.2.1.chg hc h1, (a2 j hj).2.2.2⟩, a3⟩
theorem PH.zero (w : World) (bx bo : Nat) : PH w (.slice none 0 0) bx bo [] 0 := ⟨fun _ => 0, fun _ => 0, fun _ => 0, fun _ _ => [], [], World.ownsRow_nil _ _ _ _, fun j hj => absurd hj (by omega), fun i j hi _ => absurd hi (by omega)⟩
set_option maxHeartbeats 4000000 in
set_option maxRecDepth 100000 in
theorem BookShares_0 (gb : Nat) (p : Option Addr) (c : Nat) (w : World) : Calls Tryz.prog 17 #[.pointer (some ⟨gb, 0, none⟩), .slice p 0 c] w fun e w' => e = .returned (.tuple #[]) ∧ w' = w := by
  go_enter Tryz.func17, Tryz.ntmps17
  go_wp2_with fail
  go_end0
  exact ⟨rfl, rfl⟩
/-- The book in block gb. -/
def BkV (w : World) (gb bx bo : Nat) (L M O : List Nat) (K J H : Nat) : Prop := ∃ B : Nat → Value, (∀ q, q < 21 → ¬ q = 1 → ¬ q = 4 → ¬ q = 8 → B q = .slice none 0 0) ∧ Blk w gb (bkC B) 65 ∧ bx ≤ gb ∧ PS w (B 4) bx bo L K ∧ PI w (B 1) bx bo M J ∧ PH w (B 8) bx bo O H
theorem BkV.chg {w w' : World} {gb bx bo : Nat} {L M O : List Nat} {K J H : Nat} (h : BkV w gb bx bo L M O K J H) (hc : Chg w w' []) : BkV w' gb bx bo L M O K J H := by
  obtain ⟨B, h1, h2, h3, h4, h5, h6⟩ := h
  exact ⟨B, h1, h2.chg hc (by simp), h3, h4.chg hc (Fr.nil _ _) (Fr.nil _ _), h5.chg hc (Fr.nil _ _) (Fr.nil _ _), h6.chg hc (Fr.nil _ _) (Fr.nil _ _)⟩
theorem BkV.zero {w : World} {gb bx bo : Nat} {B : Nat → Value} (hB : ∀ q, q < 21 → B q = .slice none 0 0) (h : Blk w gb (bkC B) 65) (hb : bx ≤ gb) : BkV w gb bx bo [] [] [] 0 0 0 :=
  ⟨B, fun q h1 _ _ _ => hB q h1, h, hb, by rw [hB 4 (by decide)]; exact PS.zero _ _ _, by rw [hB 1 (by decide)]; exact PI.zero _ _ _, by rw [hB 8 (by decide)]; exact PH.zero _ _ _⟩
/-- The blocks that a step of the book writes: of no list. -/
def FrB (w : World) (bx : Nat) (l : List Nat) : Prop := (∀ y, y ∈ l → bx ≤ y) ∧ Fr w 24 l ∧ Fr w 3 l ∧ Fr w 28 l
theorem FrB.nil (w : World) (bx : Nat) : FrB w bx [] := ⟨fun y hy => by simp at hy, Fr.nil _ _, Fr.nil _ _, Fr.nil _ _⟩
set_option maxRecDepth 100000 in
/-- What Book.Scalars leaves. -/
theorem BkV.addS {w : World} {gb bx bo : Nat} {L M O : List Nat} {K J H : Nat} (h : BkV w gb bx bo L M O K J H) (hK : K ≤ 1000) {x n d : Nat} {G : Nat → List Value} (hn : 0 < n ∧ n ≤ 1000) (hx : ElS w x n d G) (hbx : bo ≤ x) (hfr : ¬ x ∈ L) :
    Calls Tryz.prog 18 #[.pointer (some ⟨gb, 0, none⟩), .slice (some ⟨x, 0, none⟩) n d] w fun e w' => e = .returned (.tuple #[]) ∧ BkV w' gb bx bo (x :: L) M O (K + 1) J H ∧ ∃ l, Chg w w' l ∧ FrB w bx l := by
  obtain ⟨B, h1, h2, h3, h4, h5, h6⟩ := h
  obtain ⟨o, N, c, F, vs, a1, a2, a3⟩ := h4
  have bsz : bx ≤ w.heap.size := Nat.le_trans h3 (Nat.le_of_lt h2.lt)
  have hvl : vs.length = K := by have q := a1.1; simpa using q
  refine (BookScalars_s gb bx K x n d B vs hK hn.1 w bsz h2 a1).mono ?_
  rintro e w' ⟨rfl, lg, lc, hat, q1, q2, q3⟩
  have far : ∀ T, T ≠ 65 → T ≠ 29 → Fr w T (gb :: ob (B 4)) := fun T hT1 hT2 z C hz hm => by
    rcases List.mem_cons.1 hm with e | hm
    · exact hz.ne h2 hT1 e
    · obtain ⟨C', hC'⟩ := ownsRow_blk a1 hm
      exact hz.ne hC' hT2 rfl
  have T1 : w'.ownsRow bx 29 1 (upV B 4 (.slice (some ⟨lg, 0, none⟩) (K + 1) lc) 4) (K + 1) (vs ++ [.slice (some ⟨x, 0, none⟩) n d]) := by rw [upV_same]; exact q2
  have T2 : PS w' (upV B 4 (.slice (some ⟨lg, 0, none⟩) (K + 1) lc) 4) bx bo (x :: L) (K + 1) := by
    refine ⟨fun j => if j = K then x else o j, fun j => if j = K then n else N j, fun j => if j = K then d else c j, fun j => if j = K then G else F j, _, T1, ?_, ?_⟩
    · intro j hj
      by_cases hjk : j = K
      · subst hjk
        simp only [if_true]
        exact ⟨by rw [List.getElem?_append_right (by omega), hvl]; simp, hn, hx.chg q3 (far _ (by decide) (by decide)), hbx, List.mem_cons_self ..⟩
      · have hj2 : j < K := by omega
        simp only [if_neg hjk]
        obtain ⟨k1, k2, k3, k5, k6⟩ := a2 j hj2
        exact ⟨by rw [List.getElem?_append_left (by omega)]; exact k1, k2, k3.chg q3 (far _ (by decide) (by decide)), k5, List.mem_cons_of_mem _ k6⟩
    · intro i j hi hj hne
      by_cases hik : i = K
      · subst hik
        have hji : ¬ j = i := fun e => hne e.symm
        simp only [if_true, if_neg hji]
        intro e
        exact hfr (by rw [e]; exact (a2 j (by omega)).2.2.2.2)
      · by_cases hjk : j = K
        · subst hjk
          simp only [if_true, if_neg hik]
          intro e
          exact hfr (by rw [← e]; exact (a2 i (by omega)).2.2.2.2)
        · simp only [if_neg hik, if_neg hjk]
          exact a3 i j (by omega) (by omega) hne
  have T3 : PI w' (upV B 4 (.slice (some ⟨lg, 0, none⟩) (K + 1) lc) 1) bx bo M J := by
    rw [upV_other _ _ _ _ (by decide)]
    exact h5.chg q3 (far _ (by decide) (by decide)) (far _ (by decide) (by decide))
  have T4 : PH w' (upV B 4 (.slice (some ⟨lg, 0, none⟩) (K + 1) lc) 8) bx bo O H := by
    rw [upV_other _ _ _ _ (by decide)]
    exact h6.chg q3 (far _ (by decide) (by decide)) (far _ (by decide) (by decide))
  refine ⟨rfl, ⟨_, fun q hq e1 e2 e3 => ?_, q1, h3, T2, T3, T4⟩, _, q3, ?_, far _ (by decide) (by decide), far _ (by decide) (by decide), far _ (by decide) (by decide)⟩
  · rw [upV_other _ _ _ _ (show ¬ q = 4 by assumption)]
    exact h1 q hq e1 e2 e3
  · intro y hy
    rcases List.mem_cons.1 hy with e | hy
    · omega
    · exact (a1.lt y (by unfold ob at hy; simpa using hy)).1
set_option maxRecDepth 100000 in
/-- What Book.Ints leaves. -/
theorem BkV.addI {w : World} {gb bx bo : Nat} {L M O : List Nat} {K J H : Nat} (h : BkV w gb bx bo L M O K J H) (hK : J ≤ 1000) {x n d : Nat} {G : Nat → Int} (hn : 0 < n ∧ n ≤ 1000) (hx : ElI w x n d G) (hbx : bo ≤ x) (hfr : ¬ x ∈ M) :
    Calls Tryz.prog 19 #[.pointer (some ⟨gb, 0, none⟩), .slice (some ⟨x, 0, none⟩) n d] w fun e w' => e = .returned (.tuple #[]) ∧ BkV w' gb bx bo L (x :: M) O K (J + 1) H ∧ ∃ l, Chg w w' l ∧ FrB w bx l := by
  obtain ⟨B, h1, h2, h3, h4, h5, h6⟩ := h
  obtain ⟨o, N, c, F, vs, a1, a2, a3⟩ := h5
  have bsz : bx ≤ w.heap.size := Nat.le_trans h3 (Nat.le_of_lt h2.lt)
  have hvl : vs.length = J := by have q := a1.1; simpa using q
  refine (BookInts_s gb bx J x n d B vs hK hn.1 w bsz h2 a1).mono ?_
  rintro e w' ⟨rfl, lg, lc, hat, q1, q2, q3⟩
  have far : ∀ T, T ≠ 65 → T ≠ 26 → Fr w T (gb :: ob (B 1)) := fun T hT1 hT2 z C hz hm => by
    rcases List.mem_cons.1 hm with e | hm
    · exact hz.ne h2 hT1 e
    · obtain ⟨C', hC'⟩ := ownsRow_blk a1 hm
      exact hz.ne hC' hT2 rfl
  have T1 : w'.ownsRow bx 26 1 (upV B 1 (.slice (some ⟨lg, 0, none⟩) (J + 1) lc) 1) (J + 1) (vs ++ [.slice (some ⟨x, 0, none⟩) n d]) := by rw [upV_same]; exact q2
  have T2 : PI w' (upV B 1 (.slice (some ⟨lg, 0, none⟩) (J + 1) lc) 1) bx bo (x :: M) (J + 1) := by
    refine ⟨fun j => if j = J then x else o j, fun j => if j = J then n else N j, fun j => if j = J then d else c j, fun j => if j = J then G else F j, _, T1, ?_, ?_⟩
    · intro j hj
      by_cases hjk : j = J
      · subst hjk
        simp only [if_true]
        exact ⟨by rw [List.getElem?_append_right (by omega), hvl]; simp, hn, hx.chg q3 (far _ (by decide) (by decide)), hbx, List.mem_cons_self ..⟩
      · have hj2 : j < J := by omega
        simp only [if_neg hjk]
        obtain ⟨k1, k2, k3, k5, k6⟩ := a2 j hj2
        exact ⟨by rw [List.getElem?_append_left (by omega)]; exact k1, k2, k3.chg q3 (far _ (by decide) (by decide)), k5, List.mem_cons_of_mem _ k6⟩
    · intro i j hi hj hne
      by_cases hik : i = J
      · subst hik
        have hji : ¬ j = i := fun e => hne e.symm
        simp only [if_true, if_neg hji]
        intro e
        exact hfr (by rw [e]; exact (a2 j (by omega)).2.2.2.2)
      · by_cases hjk : j = J
        · subst hjk
          simp only [if_true, if_neg hik]
          intro e
          exact hfr (by rw [← e]; exact (a2 i (by omega)).2.2.2.2)
        · simp only [if_neg hik, if_neg hjk]
          exact a3 i j (by omega) (by omega) hne
  have T3 : PS w' (upV B 1 (.slice (some ⟨lg, 0, none⟩) (J + 1) lc) 4) bx bo L K := by
    rw [upV_other _ _ _ _ (by decide)]
    exact h4.chg q3 (far _ (by decide) (by decide)) (far _ (by decide) (by decide))
  have T4 : PH w' (upV B 1 (.slice (some ⟨lg, 0, none⟩) (J + 1) lc) 8) bx bo O H := by
    rw [upV_other _ _ _ _ (by decide)]
    exact h6.chg q3 (far _ (by decide) (by decide)) (far _ (by decide) (by decide))
  refine ⟨rfl, ⟨_, fun q hq e1 e2 e3 => ?_, q1, h3, T3, T2, T4⟩, _, q3, ?_, far _ (by decide) (by decide), far _ (by decide) (by decide), far _ (by decide) (by decide)⟩
  · rw [upV_other _ _ _ _ (show ¬ q = 1 by assumption)]
    exact h1 q hq e1 e2 e3
  · intro y hy
    rcases List.mem_cons.1 hy with e | hy
    · omega
    · exact (a1.lt y (by unfold ob at hy; simpa using hy)).1
set_option maxRecDepth 100000 in
/-- What Book.Shares leaves. -/
theorem BkV.addH {w : World} {gb bx bo : Nat} {L M O : List Nat} {K J H : Nat} (h : BkV w gb bx bo L M O K J H) (hK : H ≤ 1000) {x n d : Nat} {G : Nat → List Value} (hn : 0 < n ∧ n ≤ 1000) (hx : ElH w x n d G) (hbx : bo ≤ x) (hfr : ¬ x ∈ O) :
    Calls Tryz.prog 17 #[.pointer (some ⟨gb, 0, none⟩), .slice (some ⟨x, 0, none⟩) n d] w fun e w' => e = .returned (.tuple #[]) ∧ BkV w' gb bx bo L M (x :: O) K J (H + 1) ∧ ∃ l, Chg w w' l ∧ FrB w bx l := by
  obtain ⟨B, h1, h2, h3, h4, h5, h6⟩ := h
  obtain ⟨o, N, c, F, vs, a1, a2, a3⟩ := h6
  have bsz : bx ≤ w.heap.size := Nat.le_trans h3 (Nat.le_of_lt h2.lt)
  have hvl : vs.length = H := by have q := a1.1; simpa using q
  refine (BookShares_s gb bx H x n d B vs hK hn.1 w bsz h2 a1).mono ?_
  rintro e w' ⟨rfl, lg, lc, hat, q1, q2, q3⟩
  have far : ∀ T, T ≠ 65 → T ≠ 22 → Fr w T (gb :: ob (B 8)) := fun T hT1 hT2 z C hz hm => by
    rcases List.mem_cons.1 hm with e | hm
    · exact hz.ne h2 hT1 e
    · obtain ⟨C', hC'⟩ := ownsRow_blk a1 hm
      exact hz.ne hC' hT2 rfl
  have T1 : w'.ownsRow bx 22 1 (upV B 8 (.slice (some ⟨lg, 0, none⟩) (H + 1) lc) 8) (H + 1) (vs ++ [.slice (some ⟨x, 0, none⟩) n d]) := by rw [upV_same]; exact q2
  have T2 : PH w' (upV B 8 (.slice (some ⟨lg, 0, none⟩) (H + 1) lc) 8) bx bo (x :: O) (H + 1) := by
    refine ⟨fun j => if j = H then x else o j, fun j => if j = H then n else N j, fun j => if j = H then d else c j, fun j => if j = H then G else F j, _, T1, ?_, ?_⟩
    · intro j hj
      by_cases hjk : j = H
      · subst hjk
        simp only [if_true]
        exact ⟨by rw [List.getElem?_append_right (by omega), hvl]; simp, hn, hx.chg q3 (far _ (by decide) (by decide)), hbx, List.mem_cons_self ..⟩
      · have hj2 : j < H := by omega
        simp only [if_neg hjk]
        obtain ⟨k1, k2, k3, k5, k6⟩ := a2 j hj2
        exact ⟨by rw [List.getElem?_append_left (by omega)]; exact k1, k2, k3.chg q3 (far _ (by decide) (by decide)), k5, List.mem_cons_of_mem _ k6⟩
    · intro i j hi hj hne
      by_cases hik : i = H
      · subst hik
        have hji : ¬ j = i := fun e => hne e.symm
        simp only [if_true, if_neg hji]
        intro e
        exact hfr (by rw [e]; exact (a2 j (by omega)).2.2.2.2)
      · by_cases hjk : j = H
        · subst hjk
          simp only [if_true, if_neg hik]
          intro e
          exact hfr (by rw [← e]; exact (a2 i (by omega)).2.2.2.2)
        · simp only [if_neg hik, if_neg hjk]
          exact a3 i j (by omega) (by omega) hne
  have T3 : PS w' (upV B 8 (.slice (some ⟨lg, 0, none⟩) (H + 1) lc) 4) bx bo L K := by
    rw [upV_other _ _ _ _ (by decide)]
    exact h4.chg q3 (far _ (by decide) (by decide)) (far _ (by decide) (by decide))
  have T4 : PI w' (upV B 8 (.slice (some ⟨lg, 0, none⟩) (H + 1) lc) 1) bx bo M J := by
    rw [upV_other _ _ _ _ (by decide)]
    exact h5.chg q3 (far _ (by decide) (by decide)) (far _ (by decide) (by decide))
  refine ⟨rfl, ⟨_, fun q hq e1 e2 e3 => ?_, q1, h3, T3, T4, T2⟩, _, q3, ?_, far _ (by decide) (by decide), far _ (by decide) (by decide), far _ (by decide) (by decide)⟩
  · rw [upV_other _ _ _ _ (show ¬ q = 8 by assumption)]
    exact h1 q hq e1 e2 e3
  · intro y hy
    rcases List.mem_cons.1 hy with e | hy
    · omega
    · exact (a1.lt y (by unfold ob at hy; simpa using hy)).1
set_option maxRecDepth 100000 in
/-- Apart of such a book. -/
theorem BkV.apart {w : World} {gb bx bo : Nat} {L M O : List Nat} {K J H : Nat} (h : BkV w gb bx bo L M O K J H) (hK : K ≤ 1000) (hJ : J ≤ 1000) (hH : H ≤ 1000) : Calls Tryz.prog 20 #[.pointer (some ⟨gb, 0, none⟩)] w fun e w' => e = .returned (.bool true) ∧ ∃ l, Chg w w' l ∧ ∀ y, y ∈ l → bo ≤ y := by
  obtain ⟨B, h1, h2, h3, ⟨oa, Na, ca, Fa, va, a1, a2, a3⟩, ⟨ob', Nb, cb, Fb, vb, b1, b2, b3⟩, ⟨od, Nd, cd, Fd, vd, d1, d2, d3⟩⟩ := h
  have g1 : ¬ gb ∈ os ob' J := fun hm => by
    obtain ⟨j, hj, e⟩ := mem_os hm
    obtain ⟨C, hC⟩ := (b2 j hj).2.2.1.blk
    exact hC.ne h2 (by decide) e
  have g2 : ¬ gb ∈ os oa K := fun hm => by
    obtain ⟨j, hj, e⟩ := mem_os hm
    obtain ⟨C, hC⟩ := (a2 j hj).2.2.1.blk
    exact hC.ne h2 (by decide) e
  have g3 : ¬ gb ∈ os od H := fun hm => by
    obtain ⟨j, hj, e⟩ := mem_os hm
    obtain ⟨C, hC⟩ := (d2 j hj).2.2.1.blk
    exact hC.ne h2 (by decide) e
  have fr1 : ∀ T, T ≠ 3 → Fr w T (os ob' J) := fun T hT z C hz hm => by
    obtain ⟨j, hj, e⟩ := mem_os hm
    obtain ⟨D, hD⟩ := (b2 j hj).2.2.1.blk
    exact hD.ne hz (fun q => hT q.symm) e
  have fr2 : ∀ T, T ≠ 3 → T ≠ 24 → Fr w T (os ob' J ++ os oa K) := fun T hT hT2 z C hz hm => by
    rcases List.mem_append.1 hm with hm | hm
    · exact fr1 T hT z C hz hm
    · obtain ⟨j, hj, e⟩ := mem_os hm
      obtain ⟨D, hD⟩ := (a2 j hj).2.2.1.blk
      exact hD.ne hz (fun q => hT2 q.symm) e
  refine (Apart_3 gb B 65 (os ob' J) (os oa K) (os od H) h1 g1 g2 g3 w h2 ?_ ?_ ?_).mono fun e w' ⟨he, hc⟩ => ⟨he, _, hc, fun y hy => ?_⟩
  · intro w' hc hb
    rcases b1.2 with ⟨e3, hK0⟩ | ⟨lg, lc, cur, hB, hb1, hg, hcap, hrest⟩
    · subst hK0
      exact (apartInts_nil gb B _ e3 w' hb).mono fun e w'' ⟨he, hc⟩ => ⟨he, hc.wide⟩
    · have r1 := b1
      rw [hB] at r1
      obtain ⟨C, hC⟩ := ownsRow_blk b1 (k := lg) (by rw [hB, ob_slice]; simp)
      refine apartInts_j gb lg lc J B _ ob' Nb cb Fb hJ (fun j hj => ⟨(b2 j hj).2.1.1, by have := (b2 j hj).2.1.2; omega⟩) hB hcap w' hb (fun j hj => cell_l (ownsRow_cell r1 (b2 j hj).1) hc (by simp)) (Nat.lt_of_lt_of_le hC.lt hc.size) ?_ (fun j hj => (b2 j hj).2.2.1.chg hc (Fr.nil _ _)) b3
      intro j hj e
      obtain ⟨C', hC'⟩ := (b2 j hj).2.2.1.blk
      exact hC'.ne hC (by decide) e.symm
  · intro w' hc hb
    rcases a1.2 with ⟨e3, hK0⟩ | ⟨lg, lc, cur, hB, hb1, hg, hcap, hrest⟩
    · subst hK0
      exact (apartScalars_nil gb B _ e3 w' hb).mono fun e w'' ⟨he, hc⟩ => ⟨he, hc.wide⟩
    · have r1 := a1
      rw [hB] at r1
      obtain ⟨C, hC⟩ := ownsRow_blk a1 (k := lg) (by rw [hB, ob_slice]; simp)
      refine apartScalars_s gb lg lc K B _ oa Na Fa hK (fun j hj => ⟨(a2 j hj).2.1.1, by have := (a2 j hj).2.1.2; omega⟩) hB hcap w' hb (fun j hj => ?_) (Nat.lt_of_lt_of_le hC.lt hc.size) ?_ (fun j hj => ((a2 j hj).2.2.1.chg hc (fr1 _ (by decide))).2.1) (fun j hj => (a2 j hj).2.2.1.2.2) a3
      · have q := cell_l (ownsRow_cell r1 (a2 j hj).1) hc (fr1 _ (by decide) _ _ hC)
        rwa [(a2 j hj).2.2.1.1] at q
      intro j hj e
      exact (a2 j hj).2.2.1.2.1.ne hC (by decide) e.symm
  · intro w' hc hb
    rcases d1.2 with ⟨e3, hK0⟩ | ⟨lg, lc, cur, hB, hb1, hg, hcap, hrest⟩
    · subst hK0
      exact (apartShares_nil gb B _ e3 w' hb).mono fun e w'' ⟨he, hc⟩ => ⟨he, hc.wide⟩
    · have r1 := d1
      rw [hB] at r1
      obtain ⟨C, hC⟩ := ownsRow_blk d1 (k := lg) (by rw [hB, ob_slice]; simp)
      refine apartShares_s gb lg lc H B _ od Nd Fd hH (fun j hj => ⟨(d2 j hj).2.1.1, by have := (d2 j hj).2.1.2; omega⟩) hB hcap w' hb (fun j hj => ?_) (Nat.lt_of_lt_of_le hC.lt hc.size) ?_ (fun j hj => ((d2 j hj).2.2.1.chg hc (fr2 _ (by decide) (by decide))).2.1) (fun j hj => (d2 j hj).2.2.1.2.2) d3
      · have q := cell_l (ownsRow_cell r1 (d2 j hj).1) hc (fr2 _ (by decide) (by decide) _ _ hC)
        rwa [(d2 j hj).2.2.1.1] at q
      intro j hj e
      exact (d2 j hj).2.2.1.2.1.ne hC (by decide) e.symm
  · rcases List.mem_append.1 hy with hm | hm
    · rcases List.mem_append.1 hm with hm | hm
      · obtain ⟨j, hj, e⟩ := mem_os hm
        have := (b2 j hj).2.2.2.1
        omega
      · obtain ⟨j, hj, e⟩ := mem_os hm
        have := (a2 j hj).2.2.2.1
        omega
    · obtain ⟨j, hj, e⟩ := mem_os hm
      have := (d2 j hj).2.2.2.1
      omega
end Go.Proofs.YtledggdoehnlcaaGreat
