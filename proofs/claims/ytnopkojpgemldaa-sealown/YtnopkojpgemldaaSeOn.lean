/- SealOwn: what the calls answer, as lists of a book; the state between its calls; bytes of the call's own. -/
import Derived.Test.YtnopkojpgemldaaSeUb
import Derived.Test.YtnopkojpgemldaaSeBy
import Derived.Test.YtnopkojpgemldaaSeLo
import Derived.Test.YtnopkojpgemldaaSeCt
import Derived.Test.YtnopkojpgemldaaBkY
set_option linter.unusedVariables false
set_option linter.unusedSimpArgs false
set_option linter.unnecessarySimpa false
namespace Go.Proofs.Ytnopkojpgemldaa
open Go.RowKit

def bkNil : Nat → Value := fun _ => .slice none 0 0
theorem zeroBk : (Try.prog.info? 77).bind (·.zero) = some (.agg (bkC bkNil)) := by kernel_rfl
/-- The book stays where a block of another kind is written. -/
theorem BkY.chgU {w w' : World} {gb bx bo : Nat} {L : List Nat} {K : Nat} (h : BkY w gb bx bo L K) {z : Nat} {C : Array Value} {T : TypeId} (hz : Blk w z C T) (h1 : T ≠ 77) (h2 : T ≠ 26) (h3 : T ≠ 5) (hc : Chg w w' [z]) : BkY w' gb bx bo L K := by
  obtain ⟨B, o, N, c, F, vs, q1, q2, q3, q4, q5, q6⟩ := h
  refine ⟨B, o, N, c, F, vs, q1, q2.chg hc (fun hm => hz.ne q2 h1 (by simpa using hm : gb = z).symm), q3, ownsRow_chg q4 hc (fun k hk hm => ?_), fun j hj => ⟨(q5 j hj).1, (q5 j hj).2.1, (q5 j hj).2.2.1.chg hc (fun hm => ?_), (q5 j hj).2.2.2⟩, q6⟩
  · obtain ⟨C', hC'⟩ := ownsRow_blk q4 hk
    exact hz.ne hC' h2 (by simpa using hm : k = z).symm
  · obtain ⟨C', hC', _⟩ := (q5 j hj).2.2.1
    exact hz.ne hC' h3 (by simpa using hm : o j = z).symm
/-- A call's answer: no bytes, or bytes in a block from a up to b. -/
def An (w : World) (a b : Nat) (v : Value) : Prop := (∃ p c, v = .slice p 0 c) ∨ ∃ g n d G, v = .slice (some ⟨g, 0, none⟩) n d ∧ n ≤ 140737488355280 ∧ BL w g n d G ∧ a ≤ g ∧ g < b
theorem An.non (w : World) (a b : Nat) : An w a b (.slice none 0 0) := Or.inl ⟨none, 0, rfl⟩
theorem An.blk {w : World} {g n a : Nat} {f : Nat → Nat} (h : Blk w g (yC n f) 5) (hn : n ≤ 140737488355280) (ha : a ≤ g) : An w a w.heap.size (.slice (some ⟨g, 0, none⟩) n n) :=
  Or.inr ⟨g, n, n, f, rfl, hn, h.bl (by omega), ha, h.lt⟩
theorem An.chg {w w' : World} {a b : Nat} {v : Value} {l : List Nat} (h : An w a b v) (hc : Chg w w' l) (hf : Fr w 5 l) : An w' a b v := by
  rcases h with h | ⟨g, n, d, G, h1, h2, h3, h4⟩
  · exact Or.inl h
  · exact Or.inr ⟨g, n, d, G, h1, h2, h3.chg hc (by obtain ⟨C, hC, _⟩ := h3; exact hf _ _ hC), h4⟩
theorem Fr.none0 (w : World) (T : TypeId) : Fr w T [] := fun z C _ hz => by simp at hz
theorem Fr.one {w : World} {T U : TypeId} {y : Nat} {D : Array Value} (h : Blk w y D U) (hT : ¬ T = U) : Fr w T [y] := fun z C hz hm => hz.ne h hT (by simpa using hm)
/-- What a call leaves that answers bytes and a number. -/
def AnQ (w : World) (e : Ending) (w' : World) : Prop := ∃ sv ev, e = .returned (.tuple #[sv, .int .i64 ev]) ∧ An w' w.heap.size w'.heap.size sv ∧ Chg w w' []
theorem Stream_n (k nn : Nat → Nat) (hk : ∀ i, i < 32 → k i < 256) (hn : ∀ i, i < 12 → nn i < 256) (v : Value) (n : Nat) (f : Nat → Nat) (w : World) (hv : Sz w v n f) (hm : n ≤ 140737488351232) :
    Calls Try.prog 13 #[.agg (yC 32 k), .int .u32 1, .agg (yC 12 nn), v] w fun e w' => AnQ w e w' := by
  by_cases hq : 1 + (n + 63) / 64 ≤ 4294967296
  · refine (Stream_ok k nn 1 hk hn (by unfold V; omega) v n f w hv (by omega) hq).mono ?_
    rintro e w' ⟨g, rfl, hg, B, c⟩
    exact ⟨_, _, rfl, An.blk B (by omega) hg, c⟩
  · refine (Stream_end k nn 1 (by unfold V; omega) v n f w hv (by omega)).mono ?_
    rintro e w' ⟨rfl, c⟩
    exact ⟨_, _, rfl, An.non _ _ _, c⟩
/-- What a call leaves that answers n bytes f. -/
def AnS (w : World) (n : Nat) (f : Nat → Nat) (e : Ending) (w' : World) : Prop := ∃ g, e = .returned (.slice (some ⟨g, 0, none⟩) n n) ∧ An w' w.heap.size w'.heap.size (.slice (some ⟨g, 0, none⟩) n n) ∧ Sz w' (.slice (some ⟨g, 0, none⟩) n n) n f ∧ Chg w w' []
theorem Seal_n (k nn : Nat → Nat) (hk : ∀ i, i < 32 → k i < 256) (hn : ∀ i, i < 12 → nn i < 256) (v0 : Value) (n0 : Nat) (f0 : Nat → Nat) (v1 : Value) (n1 : Nat) (f1 : Nat → Nat) (w : World) (hv0 : Sz w v0 n0 f0) (hv1 : Sz w v1 n1 f1) (h1 : n1 ≤ 140737488351232) :
    Calls Try.prog 10 #[.agg (yC 32 k), .agg (yC 12 nn), v0, v1] w fun e w' => AnS w (n1 + 16) (sealB k nn n0 f0 n1 f1) e w' := by
  have hb := hv1.bd
  refine (Seal_s k nn hk hn v0 n0 f0 v1 n1 f1 w hv0 hv1 (by omega)).mono ?_
  rintro e w' ⟨g, rfl, hg, B, c⟩
  exact ⟨g, rfl, An.blk B (by omega) hg, B.szn (fun i hi => seal_lt hb i hi) (by omega), c⟩
theorem Open_n (k nn : Nat → Nat) (hk : ∀ i, i < 32 → k i < 256) (hn : ∀ i, i < 12 → nn i < 256) (v0 : Value) (n0 : Nat) (f0 : Nat → Nat) (v1 : Value) (N : Nat) (f : Nat → Nat) (w : World) (hv0 : Sz w v0 n0 f0) (hv1 : Sz w v1 (N + 16) f) (h1 : N ≤ 140737488351232) :
    Calls Try.prog 11 #[.agg (yC 32 k), .agg (yC 12 nn), v0, v1] w fun e w' => AnQ w e w' := by
  refine (Open_s k nn hk hn v0 n0 f0 v1 N f w hv0 hv1 (by omega)).mono ?_
  rintro e w' (⟨_, g, rfl, hg, B, c⟩ | ⟨_, rfl, c⟩)
  · exact ⟨_, _, rfl, An.blk B (by omega) hg, c⟩
  · exact ⟨_, _, rfl, An.non _ _ _, c⟩
def AnU (w : World) (e : Ending) (w' : World) : Prop := ∃ sv mv ev, e = .returned (.tuple #[sv, mv, .int .i64 ev]) ∧ An w' w.heap.size w'.heap.size sv ∧ Chg w w' []
theorem Unbox_n (k : Nat → Nat) (hk : ∀ i, i < 32 → k i < 256) (v0 : Value) (n0 : Nat) (f0 : Nat → Nat) (v1 : Value) (N : Nat) (f : Nat → Nat) (w : World) (hv0 : Sz w v0 n0 f0) (hv1 : Sz w v1 (N + 28) f) (h1 : N ≤ 140737488351232) :
    Calls Try.prog 22 #[.agg (yC 32 k), v0, v1] w fun e w' => AnU w e w' := by
  refine (Unbox_s k hk v0 n0 f0 v1 N f w hv0 hv1 (by omega)).mono ?_
  rintro e w' (⟨_, rfl, c⟩ | ⟨_, _, rfl, c⟩ | ⟨_, _, g, rfl, hg, B, c⟩)
  · exact ⟨_, _, _, rfl, An.non _ _ _, c⟩
  · exact ⟨_, _, _, rfl, An.non _ _ _, c⟩
  · exact ⟨_, _, _, rfl, An.blk B (by omega) hg, c⟩
/-- What a call of Box leaves. -/
def AnX (w : World) (y : Nat) (k : Nat → Nat) (nx n : Nat) (f : Nat → Nat) (e : Ending) (w' : World) : Prop := ∃ g, e = .returned (.tuple #[.slice (some ⟨g, 0, none⟩) n n, .int .i64 0]) ∧ An w' w.heap.size w'.heap.size (.slice (some ⟨g, 0, none⟩) n n) ∧ Sz w' (.slice (some ⟨g, 0, none⟩) n n) n f ∧ Blk w' y (slC k (nx + 1) true) 80 ∧ Chg w w' [y]
theorem Box_n (y nx : Nat) (k : Nat → Nat) (hk : ∀ i, i < 32 → k i < 256) (hnx : nx < 18446744073709551615) (v0 : Value) (n0 : Nat) (f0 : Nat → Nat) (v1 : Value) (n1 : Nat) (f1 : Nat → Nat) (w : World)
    (hb : Blk w y (slC k nx true) 80) (hv0 : Sz w v0 n0 f0) (hz0 : Oz v0 [y]) (hv1 : Sz w v1 n1 f1) (hz1 : Oz v1 [y]) (h1 : n1 ≤ 140737488351232) :
    Calls Try.prog 21 #[.pointer (some ⟨y, 0, none⟩), v0, v1] w fun e w' => AnX w y k nx (n1 + 28) (boxB k nx n0 f0 n1 f1) e w' := by
  have hbd := hv1.bd
  refine (Box_s y nx k hk hnx v0 n0 f0 v1 n1 f1 w hb hv0 hz0 hv1 hz1 (by omega)).mono ?_
  rintro e w' ⟨g, rfl, hg, B, BY, c⟩
  exact ⟨g, rfl, An.blk B (by omega) hg, B.szn (fun i hi => box_lt k nx n0 f0 n1 f1 hbd i hi) (by omega), BY, c⟩
/-- The state between the calls of SealOwn. -/
structure SO (w wr : World) (k nn : Nat → Nat) (kb nb ya yb gb bo i : Nat) (L : List Nat) (K : Nat) : Prop where
  key : Blk wr kb (yC 32 k) 23
  non' : Blk wr nb (yC 12 nn) 25
  a : Blk wr ya (slC k i true) 80
  b : Blk wr yb (slC k 1 true) 80
  bk : BkY wr gb gb bo L K
  cc : Chg w wr []
  ll : ∀ y, y ∈ L → y < wr.heap.size
  lo : bo ≤ wr.heap.size
  sep : ya ≠ yb ∧ w.heap.size ≤ ya ∧ w.heap.size ≤ gb ∧ w.heap.size ≤ bo
theorem SO.c0 {w wr w' : World} {k nn : Nat → Nat} {kb nb ya yb gb bo i : Nat} {L : List Nat} {K : Nat} (h : SO w wr k nn kb nb ya yb gb bo i L K) (c : Chg wr w' []) : SO w w' k nn kb nb ya yb gb bo i L K :=
  ⟨h.key.chg c (by simp), h.non'.chg c (by simp), h.a.chg c (by simp), h.b.chg c (by simp), h.bk.chg c, h.cc.trans1 c, fun y hy => Nat.lt_of_lt_of_le (h.ll y hy) c.size, Nat.le_trans h.lo c.size, h.sep⟩
theorem SO.box {w wr w' : World} {k nn : Nat → Nat} {kb nb ya yb gb bo i : Nat} {L : List Nat} {K : Nat} (h : SO w wr k nn kb nb ya yb gb bo i L K) (hb : Blk w' ya (slC k (i + 1) true) 80) (c : Chg wr w' [ya]) : SO w w' k nn kb nb ya yb gb bo (i + 1) L K :=
  ⟨h.key.chg c (fun hm => h.key.ne h.a (by decide) (by simpa using hm)), h.non'.chg c (fun hm => h.non'.ne h.a (by decide) (by simpa using hm)), hb, h.b.chg c (fun hm => h.sep.1 (by simpa using hm : yb = ya).symm), h.bk.chgU h.a (by decide) (by decide) (by decide) c, h.cc.new c h.sep.2.1, fun y hy => Nat.lt_of_lt_of_le (h.ll y hy) c.size, Nat.le_trans h.lo c.size, h.sep⟩
set_option maxRecDepth 100000 in
theorem SO.add {w wr : World} {k nn : Nat → Nat} {kb nb ya yb gb bo i : Nat} {L : List Nat} {K : Nat} (h : SO w wr k nn kb nb ya yb gb bo i L K) (hK : K ≤ 900) {lo hi : Nat} {v : Value} (ha : An wr lo hi v) (hl : ∀ y, y ∈ L → y < lo) (h1 : bo ≤ lo) (h2 : lo ≤ hi) (h3 : hi ≤ wr.heap.size) :
    Calls Try.prog 23 #[.pointer (some ⟨gb, 0, none⟩), v] wr fun e w' => e = .returned (.tuple #[]) ∧ ∃ L' K', K' ≤ K + 1 ∧ SO w w' k nn kb nb ya yb gb bo i L' K' ∧ (∀ y, y ∈ L' → y < hi) ∧ (∀ a b v', An wr a b v' → An w' a b v') ∧ wr.heap.size ≤ w'.heap.size := by
  rcases ha with ⟨p, c, rfl⟩ | ⟨g, n, d, G, rfl, hn, hB, hg1, hg2⟩
  · refine (BookBytes_0 gb p c wr).mono ?_
    rintro e w' ⟨rfl, rfl⟩
    exact ⟨rfl, L, K, by omega, h, fun y hy => Nat.lt_of_lt_of_le (hl y hy) h2, fun _ _ _ q => q, Nat.le_refl _⟩
  · refine (h.bk.add (by omega) (x := g) (n := n) (d := d) hn hB (by omega) (fun hx => by have := hl g hx; omega)).mono ?_
    rintro e w' ⟨rfl, ⟨K', hK', BK⟩, l, c, hl', fr⟩
    have hy : ∀ y, y ∈ g :: L → y < hi := fun y hy => by
      rcases List.mem_cons.1 hy with e | hy
      · omega
      · exact Nat.lt_of_lt_of_le (hl y hy) h2
    refine ⟨rfl, g :: L, K', hK', ⟨h.key.chg c (fr 23 (by decide) (by decide) _ _ h.key), h.non'.chg c (fr 25 (by decide) (by decide) _ _ h.non'), h.a.chg c (fr 80 (by decide) (by decide) _ _ h.a), h.b.chg c (fr 80 (by decide) (by decide) _ _ h.b), BK, h.cc.trans c (fun y hy => Or.inr (by have := hl' y hy; have := h.sep; omega)), fun y hy' => by have := hy y hy'; have := c.size; omega, Nat.le_trans h.lo c.size, h.sep⟩, hy, fun a b v' q => q.chg c (fr 5 (by decide) (by decide)), c.size⟩
theorem SO.apart {w wr : World} {k nn : Nat → Nat} {kb nb ya yb gb bo i : Nat} {L : List Nat} {K : Nat} (h : SO w wr k nn kb nb ya yb gb bo i L K) (hK : K ≤ 900) :
    Calls Try.prog 24 #[.pointer (some ⟨gb, 0, none⟩)] wr fun e w' => e = .returned (.bool true) ∧ Blk w' kb (yC 32 k) 23 ∧ Blk w' nb (yC 12 nn) 25 ∧ Blk w' ya (slC k i true) 80 ∧ Blk w' yb (slC k 1 true) 80 ∧ Chg w w' [] := by
  refine (h.bk.apart (by omega)).mono ?_
  rintro e w' ⟨rfl, l, c, hl, fr⟩
  exact ⟨rfl, h.key.chg c (fr 23 (by decide) _ _ h.key), h.non'.chg c (fr 25 (by decide) _ _ h.non'), h.a.chg c (fr 80 (by decide) _ _ h.a), h.b.chg c (fr 80 (by decide) _ _ h.b), h.cc.trans c (fun y hy => Or.inr (by have := hl y hy; have := h.sep; omega))⟩
/-- Bytes of the call's own. -/
def Tb (w : World) (base : Nat) (p : Option Addr) (n c : Nat) : Prop := (n = 0 ∧ c ≤ 9223372036854775807) ∨ ∃ g C f, p = some ⟨g, 0, none⟩ ∧ base ≤ g ∧ n ≤ c ∧ c ≤ 9223372036854775807 ∧ (∀ i, i < n → f i < 256) ∧ Blk w g C 5 ∧ Lo C n f
theorem Own.tb {w : World} {base : Nat} {v : Value} {n : Nat} {f : Nat → Nat} (h : Own w base v n f) : ∃ p c, v = .slice p n c ∧ Tb w base p n c := by
  by_cases h0 : 0 < n
  · obtain ⟨g, c, C, rfl, h1, h2, h3, h4, h5⟩ := h.lo h0
    exact ⟨_, c, rfl, Or.inr ⟨g, C, f, rfl, h1, h2, h3, h.2, h4, h5⟩⟩
  · obtain ⟨p, c, rfl, _, h3, _⟩ := h.sz
    exact ⟨p, c, rfl, Or.inl ⟨by omega, h3⟩⟩
theorem Tb.sz {w : World} {base n c : Nat} {p : Option Addr} (h : Tb w base p n c) : ∃ f, Sz w (.slice p n c) n f := by
  rcases h with ⟨rfl, hc⟩ | ⟨g, C, f, rfl, h1, h2, h3, h4, h5, h6⟩
  · exact ⟨fun _ => 0, p, c, rfl, by omega, hc, fun h => by omega⟩
  · exact ⟨f, (h6.sz h5 h4 0 n c (by omega) h2 h3).cg fun i _ => by rw [Nat.zero_add]⟩
theorem Tb.chg {w w' : World} {base n c : Nat} {p : Option Addr} (h : Tb w base p n c) (k : Chg w w' []) : Tb w' base p n c := by
  rcases h with h | ⟨g, C, f, h1, h2, h3, h4, h5, h6, h7⟩
  · exact Or.inl h
  · exact Or.inr ⟨g, C, f, h1, h2, h3, h4, h5, h6.chg k (by simp), h7⟩
theorem Tb.at {w : World} {base n c i : Nat} {p : Option Addr} (h : Tb w base p n c) (hi : i < n) : ∃ (g z : Nat) (C : Array Value), p = some ⟨g, 0, none⟩ ∧ base ≤ g ∧ n ≤ c ∧ z < 256 ∧ Blk w g C 5 ∧ w.cell? ⟨g, i, none⟩ = some (.int .u8 (z : Int)) ∧ w.frozen? ⟨g, i, none⟩ = false ∧ ∀ x : Nat, x < 256 → Tb (w.setCell ⟨g, i, none⟩ (.int .u8 ((x : Nat) : Int))) base p n c := by
  rcases h with ⟨rfl, _⟩ | ⟨g, C, f, rfl, h2, h3, h4, h5, h6, h7⟩
  · omega
  · exact ⟨g, f i, C, rfl, h2, h3, h5 i hi, h6, (h6.cell i).trans (h7 i hi), h6.frozen i, fun x hx => Or.inr ⟨g, _, up f i x, rfl, h2, h3, h4, Lo.bd (C := C) h5 i x hx, h6.setCell i _, h7.set i x⟩⟩
/-- A sealer that no call made. -/
theorem slC_zero : (Try.prog.built 80 []) = some (slC (fun _ => 0) 0 false) := by kernel_rfl
theorem wpList_build0 {P : Program} {ops : Array Oper} {rest : List Oper} {o : Oper} {a : Act} {w : World} {Q : Exit → Act → World → Prop} (hg : o.guard = none) (t : TypeId) (ho : o.op = .build t #[])
    (cells : Array Value) (hb : P.built t [] = some cells) (h : wpList P ops Q rest (a.put o.dst (.agg cells)) w) : wpList P ops Q (o :: rest) a w :=
  wpList_build_c5 hg t _ ho cells (by simpa using hb) h
end Go.Proofs.Ytnopkojpgemldaa
