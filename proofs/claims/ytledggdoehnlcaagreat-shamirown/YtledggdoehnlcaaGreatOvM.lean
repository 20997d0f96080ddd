/- ShamirOwn: what the calls answer, and how it is put into the book. -/
import Derived.Test.YtledggdoehnlcaaGreatBkV
import Derived.Test.YtledggdoehnlcaaGreatMgQ
import Derived.Test.YtledggdoehnlcaaGreatMgS
set_option linter.unusedVariables false
set_option linter.unusedSimpArgs false
set_option linter.unnecessarySimpa false
namespace Go.Proofs.YtledggdoehnlcaaGreat
open Go.RowKit N

/-- A list that was answered: none, or in a block from lo to hi. -/
def AnS (lo hi : Nat) (w : World) (x : Value) : Prop := (∃ p c, x = .slice p 0 c) ∨ ∃ (o N c : Nat) (F : Nat → List Value), lo ≤ o ∧ o < hi ∧ x = .slice (some ⟨o, 0, none⟩) N c ∧ 0 < N ∧ N ≤ 1000 ∧ ElS w o N c F
theorem AnS.chg {lo hi : Nat} {w w' : World} {x : Value} {l : List Nat} (h : AnS lo hi w x) (hc : Chg w w' l) (hl : Fr w 24 l) : AnS lo hi w' x := by
  rcases h with h | ⟨o, N, c, F, h1, h2, h3, h4, h5, h6⟩
  · exact Or.inl h
  · exact Or.inr ⟨o, N, c, F, h1, h2, h3, h4, h5, h6.chg hc hl⟩
theorem AnS.chg0 {lo hi : Nat} {w w' : World} {x : Value} (h : AnS lo hi w x) (hc : Chg w w' []) : AnS lo hi w' x := h.chg hc (Fr.nil _ _)
/-- A list that was answered: none, or in a block from lo to hi. -/
def AnI (lo hi : Nat) (w : World) (x : Value) : Prop := (∃ p c, x = .slice p 0 c) ∨ ∃ (o N c : Nat) (F : Nat → Int), lo ≤ o ∧ o < hi ∧ x = .slice (some ⟨o, 0, none⟩) N c ∧ 0 < N ∧ N ≤ 1000 ∧ ElI w o N c F
theorem AnI.chg {lo hi : Nat} {w w' : World} {x : Value} {l : List Nat} (h : AnI lo hi w x) (hc : Chg w w' l) (hl : Fr w 3 l) : AnI lo hi w' x := by
  rcases h with h | ⟨o, N, c, F, h1, h2, h3, h4, h5, h6⟩
  · exact Or.inl h
  · exact Or.inr ⟨o, N, c, F, h1, h2, h3, h4, h5, h6.chg hc hl⟩
theorem AnI.chg0 {lo hi : Nat} {w w' : World} {x : Value} (h : AnI lo hi w x) (hc : Chg w w' []) : AnI lo hi w' x := h.chg hc (Fr.nil _ _)
/-- A list that was answered: none, or in a block from lo to hi. -/
def AnH (lo hi : Nat) (w : World) (x : Value) : Prop := (∃ p c, x = .slice p 0 c) ∨ ∃ (o N c : Nat) (F : Nat → List Value), lo ≤ o ∧ o < hi ∧ x = .slice (some ⟨o, 0, none⟩) N c ∧ 0 < N ∧ N ≤ 1000 ∧ ElH w o N c F
theorem AnH.chg {lo hi : Nat} {w w' : World} {x : Value} {l : List Nat} (h : AnH lo hi w x) (hc : Chg w w' l) (hl : Fr w 28 l) : AnH lo hi w' x := by
  rcases h with h | ⟨o, N, c, F, h1, h2, h3, h4, h5, h6⟩
  · exact Or.inl h
  · exact Or.inr ⟨o, N, c, F, h1, h2, h3, h4, h5, h6.chg hc hl⟩
theorem AnH.chg0 {lo hi : Nat} {w w' : World} {x : Value} (h : AnH lo hi w x) (hc : Chg w w' []) : AnH lo hi w' x := h.chg hc (Fr.nil _ _)
/-- The book: how many lists of each kind at the most, and behind which blocks. -/
def Bd (w : World) (gb bx kS kI kH bS bI bH : Nat) : Prop := ∃ (L M O : List Nat) (K J H : Nat), K ≤ kS ∧ J ≤ kI ∧ H ≤ kH ∧ (∀ y, y ∈ L → y < bS) ∧ (∀ y, y ∈ M → y < bI) ∧ (∀ y, y ∈ O → y < bH) ∧ BkV w gb bx bx L M O K J H
theorem Bd.chg {w w' : World} {gb bx kS kI kH bS bI bH : Nat} (h : Bd w gb bx kS kI kH bS bI bH) (hc : Chg w w' []) : Bd w' gb bx kS kI kH bS bI bH := by
  obtain ⟨L, M, O, K, J, H, h1, h2, h3, h4, h5, h6, h7⟩ := h
  exact ⟨L, M, O, K, J, H, h1, h2, h3, h4, h5, h6, h7.chg hc⟩
theorem Bd.mono {w : World} {gb bx kS kI kH bS bI bH b : Nat} (h : Bd w gb bx kS kI kH bS bI bH) (h1 : bS ≤ b) (h2 : bI ≤ b) (h3 : bH ≤ b) : Bd w gb bx kS kI kH b b b := by
  obtain ⟨L, M, O, K, J, H, q1, q2, q3, q4, q5, q6, q7⟩ := h
  exact ⟨L, M, O, K, J, H, q1, q2, q3, fun y hy => Nat.lt_of_lt_of_le (q4 y hy) h1, fun y hy => Nat.lt_of_lt_of_le (q5 y hy) h2, fun y hy => Nat.lt_of_lt_of_le (q6 y hy) h3, q7⟩
theorem Bd.addS {w : World} {gb bx kS kI kH bS bI bH lo hi : Nat} {x : Value} (h : Bd w gb bx kS kI kH bS bI bH) (hk : kS ≤ 1000) (hx : AnS lo hi w x) (hbx : bx ≤ lo) (hb : bS ≤ lo) (hh : lo ≤ hi) :
    Calls Tryz.prog 18 #[.pointer (some ⟨gb, 0, none⟩), x] w fun e w' => e = .returned (.tuple #[]) ∧ Bd w' gb bx (kS + 1) kI kH hi bI bH ∧ ∃ l, Chg w w' l ∧ FrB w bx l := by
  obtain ⟨L, M, O, K, J, H, h1, h2, h3, h4, h5, h6, h7⟩ := h
  rcases hx with ⟨p, c, rfl⟩ | ⟨o, N, c, F, e1, e2, rfl, e3, e4, e5⟩
  · refine (BookScalars_0 gb p c w).mono ?_
    rintro e w' ⟨rfl, rfl⟩
    exact ⟨rfl, ⟨L, M, O, K, J, H, by omega, h2, h3, fun y hy => by have := h4 y hy; omega, h5, h6, h7⟩, [], Chg.refl _ _, FrB.nil _ _⟩
  · refine (h7.addS (by omega) ⟨e3, e4⟩ e5 (by omega) (fun hm => by have := h4 o hm; omega)).mono ?_
    rintro e w' ⟨rfl, hs, hl⟩
    refine ⟨rfl, ⟨_, _, _, _, _, _, by omega, h2, h3, fun y hy => ?_, h5, h6, hs⟩, hl⟩
    rcases List.mem_cons.1 hy with rfl | hy
    · exact e2
    · have := h4 y hy; omega
theorem Bd.addI {w : World} {gb bx kS kI kH bS bI bH lo hi : Nat} {x : Value} (h : Bd w gb bx kS kI kH bS bI bH) (hk : kI ≤ 1000) (hx : AnI lo hi w x) (hbx : bx ≤ lo) (hb : bI ≤ lo) (hh : lo ≤ hi) :
    Calls Tryz.prog 19 #[.pointer (some ⟨gb, 0, none⟩), x] w fun e w' => e = .returned (.tuple #[]) ∧ Bd w' gb bx kS (kI + 1) kH bS hi bH ∧ ∃ l, Chg w w' l ∧ FrB w bx l := by
  obtain ⟨L, M, O, K, J, H, h1, h2, h3, h4, h5, h6, h7⟩ := h
  rcases hx with ⟨p, c, rfl⟩ | ⟨o, N, c, F, e1, e2, rfl, e3, e4, e5⟩
  · refine (BookInts_0 gb p c w).mono ?_
    rintro e w' ⟨rfl, rfl⟩
    exact ⟨rfl, ⟨L, M, O, K, J, H, h1, by omega, h3, h4, fun y hy => by have := h5 y hy; omega, h6, h7⟩, [], Chg.refl _ _, FrB.nil _ _⟩
  · refine (h7.addI (by omega) ⟨e3, e4⟩ e5 (by omega) (fun hm => by have := h5 o hm; omega)).mono ?_
    rintro e w' ⟨rfl, hs, hl⟩
    refine ⟨rfl, ⟨_, _, _, _, _, _, h1, by omega, h3, h4, fun y hy => ?_, h6, hs⟩, hl⟩
    rcases List.mem_cons.1 hy with rfl | hy
    · exact e2
    · have := h5 y hy; omega
theorem Bd.addH {w : World} {gb bx kS kI kH bS bI bH lo hi : Nat} {x : Value} (h : Bd w gb bx kS kI kH bS bI bH) (hk : kH ≤ 1000) (hx : AnH lo hi w x) (hbx : bx ≤ lo) (hb : bH ≤ lo) (hh : lo ≤ hi) :
    Calls Tryz.prog 17 #[.pointer (some ⟨gb, 0, none⟩), x] w fun e w' => e = .returned (.tuple #[]) ∧ Bd w' gb bx kS kI (kH + 1) bS bI hi ∧ ∃ l, Chg w w' l ∧ FrB w bx l := by
  obtain ⟨L, M, O, K, J, H, h1, h2, h3, h4, h5, h6, h7⟩ := h
  rcases hx with ⟨p, c, rfl⟩ | ⟨o, N, c, F, e1, e2, rfl, e3, e4, e5⟩
  · refine (BookShares_0 gb p c w).mono ?_
    rintro e w' ⟨rfl, rfl⟩
    exact ⟨rfl, ⟨L, M, O, K, J, H, h1, h2, by omega, h4, h5, fun y hy => by have := h6 y hy; omega, h7⟩, [], Chg.refl _ _, FrB.nil _ _⟩
  · refine (h7.addH (by omega) ⟨e3, e4⟩ e5 (by omega) (fun hm => by have := h6 o hm; omega)).mono ?_
    rintro e w' ⟨rfl, hs, hl⟩
    refine ⟨rfl, ⟨_, _, _, _, _, _, h1, h2, by omega, h4, h5, fun y hy => ?_, hs⟩, hl⟩
    rcases List.mem_cons.1 hy with rfl | hy
    · exact e2
    · have := h6 y hy; omega
theorem Sb.anS {w : World} {g N lo hi : Nat} {f : Nat → Int} (h : Sb w g N f) (h1 : lo ≤ g) (h2 : g < hi) (h0 : 0 < N) (hN : N ≤ 1000) : AnS lo hi w (.slice (some ⟨g, 0, none⟩) N N) := Or.inr ⟨g, N, N, sF f, h1, h2, rfl, h0, hN, rfl, h, sF_ok N f⟩
theorem Hb.anH {w : World} {g N lo hi : Nat} {d y : Nat → Int} (h : Hb w g N d y) (h1 : lo ≤ g) (h2 : g < hi) (h0 : 0 < N) (hN : N ≤ 1000) : AnH lo hi w (.slice (some ⟨g, 0, none⟩) N N) := Or.inr ⟨g, N, N, hF d y, h1, h2, rfl, h0, hN, rfl, h, hF_ok N d y⟩
theorem Oi.anI {w : World} {lo : Nat} {s : Value} {l : List Int} (h : Oi w lo s l) (hl : l.length ≤ 1000) : AnI lo w.heap.size w s := by
  rcases h.1.2 with ⟨rfl, e0⟩ | ⟨g, cap, cur, rfl, hb, hg, h3, h4, h5, h6⟩
  · exact Or.inl ⟨_, _, rfl⟩
  · by_cases h0 : 0 < l.length
    · have b : Blk w g cur 3 := hg
      refine Or.inr ⟨g, l.length, cap, fun r => l.getD r 0, hb, b.lt, rfl, h0, hl, cur, b, by rw [h5, Nat.mul_one], h3, by simpa [maxLen] using h4, fun r hr => ?_⟩
      have q := congrArg (fun z => z[r]?) h6
      have q2 : (rL 1 l.length (oI l))[r]? = some (.int .i64 (l.getD r 0)) := by
        have := rL_get (s := 1) (m := l.length) (F := oI l) (fun j hj => h.2 j hj) (i := r) (j := 0) hr (by omega)
        rw [Nat.mul_one, Nat.add_zero] at this
        rw [this]; rfl
      rw [q2, List.getElem?_take] at q
      split at q
      · simpa using q
      · cases q
    · obtain e : l.length = 0 := by omega
      exact Or.inl ⟨_, _, by rw [e]⟩
theorem Split_a (v u : Value) (M : Nat) (f : Nat → Nat) (hM : M ≤ 4611686018427387904) (N : Nat) (d : Nat → Int) (hN : N ≤ 4611686018427387904) (w : World) (hC : Ls w v M f) (hI : Il w u N d) :
    Calls Tryz.prog 14 #[v, u] w fun e w' => ∃ x c, e = .returned (.tuple #[x, .int .i64 c]) ∧ AnH w.heap.size w'.heap.size w' x ∧ Chg w w' [] := by
  refine (Split_s v u M f hM N d hN w hC hI).mono ?_
  rintro e w' ⟨(⟨h, rfl⟩ | ⟨h, g, hg, rfl, hb⟩), k⟩
  · exact ⟨_, _, rfl, Or.inl ⟨_, _, rfl⟩, k⟩
  · have hl := idE_len (idR_zero h).1
    exact ⟨_, _, rfl, hb.anH hg hb.lt (idR_zero h).2 (by omega), k⟩
theorem Weights_a (u : Value) (N : Nat) (d : Nat → Int) (hN : N ≤ 4611686018427387904) (w : World) (hL : Il w u N d) :
    Calls Tryz.prog 6 #[u] w fun e w' => ∃ x c, e = .returned (.tuple #[x, .int .i64 c]) ∧ AnS w.heap.size w'.heap.size w' x ∧ Chg w w' [] := by
  refine (Weights_s u N d hN w hL).mono ?_
  rintro e w' ⟨h, k⟩
  unfold WtP at h
  rcases h with ⟨h0, rfl⟩ | ⟨h0, g, hg, rfl, S⟩
  · exact ⟨_, _, rfl, Or.inl ⟨_, _, rfl⟩, k⟩
  · have hl := idE_len (idR_zero h0).1
    exact ⟨_, _, rfl, S.anS hg S.lt (idR_zero h0).2 (by omega), k⟩
theorem Through_a (v : Value) (N : Nat) (X Y : Nat → Int) (hN : N ≤ 4611686018427387904) (w : World) (hL : Pl w v N X Y) :
    Calls Tryz.prog 15 #[v] w fun e w' => ∃ x c, e = .returned (.tuple #[x, .int .i64 c]) ∧ AnS w.heap.size w'.heap.size w' x ∧ Chg w w' [] := by
  refine (Through_s v N X Y hN w hL).mono ?_
  rintro e w' ⟨h, k⟩
  unfold ThP at h
  rcases h with ⟨h1, rfl⟩ | ⟨h1, h2, ⟨i, hi, hz, _⟩, rfl⟩ | ⟨h1, h2, h3, g, hg, rfl, S⟩
  · exact ⟨_, _, rfl, Or.inl ⟨_, _, rfl⟩, k⟩
  · exact ⟨_, _, rfl, Or.inl ⟨_, _, rfl⟩, k⟩
  · exact ⟨_, _, rfl, S.anS hg S.lt h1 (by omega), k⟩
theorem Correct_a (v : Value) (N : Nat) (d y : Nat → Int) (hN : N ≤ 4611686018427387904) (t : Int) (w : World) (hL : Hl w v N d y) :
    Calls Tryz.prog 16 #[v, .int .i64 t] w fun e w' => ∃ x z c, e = .returned (.tuple #[x, z, .int .i64 c]) ∧ AnS w.heap.size w'.heap.size w' x ∧ AnI w.heap.size w'.heap.size w' z ∧ Chg w w' [] := by
  refine (Correct_g v N d y hN t w hL).mono ?_
  rintro e w' ⟨r, rfl, h, k⟩
  rcases h with ⟨c, rfl, _⟩ | ⟨hE, g, s, c, rfl, hg, _, S, _, _, O⟩
  · exact ⟨_, _, _, rfl, Or.inl ⟨_, _, rfl⟩, Or.inl ⟨_, _, rfl⟩, k⟩
  · obtain ⟨t1, t2, t3, hid⟩ := enR_zero hE
    have h255 := idE_len (idR_zero hid).1
    have hlen : (srt (stL (nT c) t.toNat d y N)).length ≤ 1000 := by have := stL_len (nT c) t.toNat d y N; rw [srt_len]; omega
    exact ⟨_, _, _, rfl, S.anS hg S.lt (by omega) (by omega), O.anI hlen, k⟩
end Go.Proofs.YtledggdoehnlcaaGreat
