/- A Given whose Bytes was called, beside a list of the copies that it answered. -/
import Derived.Test.YthpfdnkcepfbaaaDoorSuI
import Derived.Test.YthpfdnkcepfbaaaDoorDr18
set_option linter.unusedVariables false
set_option linter.unusedSimpArgs false
set_option linter.unnecessarySimpa false
namespace Go.Proofs.YthpfdnkcepfbaaaDoor
open Go.RowKit

theorem Gv.apart0 {w : World} {gb base base' : Nat} {G : Nat → Value} {TG T : TypeId} {i n : Nat} {N : Nat → Nat} {F : Nat → Nat → List Value} {ov pn : Nat → Nat} {tl : Value} (h : Gv w gb base G 0 TG 22 T 1 i N F) (hTG : ¬ 22 = TG) (hN : N 0 = pn 0 + 3)
    (ho : OwnR w base' 22 1 tl n (lR ov pn)) (h0 : 0 < i) (h1 : 0 < n) : ∀ x, x ∈ ob tl → ¬ x ∈ gch gb G 0 := by
  intro x hx hm
  have c0 := ownsRow_first ho.1 hx (rL_first h1)
  obtain ⟨vs, us, l1, l2, _, hj⟩ := h.lists
  obtain ⟨o, y, q1, q2, q3, q4, q5⟩ := hj 0 h0
  rcases List.mem_cons.1 hm with e | hm
  · obtain ⟨C, hC⟩ := ownsRow_blk ho.1 hx
    exact hC.ne h.gb hTG e
  · rcases List.mem_append.1 hm with hm | hm
    · have c1 := ownsRow_first l1 hm q1
      rw [c0] at c1
      simp only [Option.some.injEq, Value.slice.injEq] at c1
      omega
    · have c1 := ownsRow_first l2 hm q2
      obtain ⟨g, cap, rfl, _, _⟩ := q5.1.form (by omega)
      rw [c0] at c1
      simp only [Option.some.injEq, Value.slice.injEq] at c1
      omega
/-- The Given stands where blocks of kinds that it does not use are turned. -/
theorem Gv.chgT {w w' : World} {gb base : Nat} {G : Nat → Value} {p : Nat} {TG TE T : TypeId} {s K : Nat} {N : Nat → Nat} {F : Nat → Nat → List Value} {z : Nat} {C : Array Value} {U : TypeId} (h : Gv w gb base G p TG TE T s K N F) (hz : Blk w z C U) (h1 : U ≠ TG) (h2 : U ≠ TE) (h3 : U ≠ T) (hc : Chg w w' [z]) : Gv w' gb base G p TG TE T s K N F := by
  refine ⟨h.gb.chg hc (fun hm => hz.ne h.gb h1 (by simpa using hm : gb = z).symm), ?_⟩
  obtain ⟨vs, us, l1, l2, hd, hj⟩ := h.lists
  refine ⟨vs, us, ownsRow_chg l1 hc (fun k hk hm => ?_), ownsRow_chg l2 hc (fun k hk hm => ?_), hd, fun j hjk => ?_⟩
  · obtain ⟨C', hC'⟩ := ownsRow_blk l1 hk
    exact hz.ne hC' h2 (by simpa using hm : k = z).symm
  · obtain ⟨C', hC'⟩ := ownsRow_blk l2 hk
    exact hz.ne hC' h2 (by simpa using hm : k = z).symm
  · obtain ⟨o, x, q1, q2, q3, q4, q5⟩ := hj j hjk
    exact ⟨o, x, q1, q2, q3, q4.chg hc (fun hm => hz.ne q4 h3 (by simpa using hm : o = z).symm), q5.chg hc (fun k hk hm => by obtain ⟨C', hC'⟩ := ownR_blk q5 hk; exact hz.ne hC' h3 (by simpa using hm : k = z).symm)⟩
/-- A Given that answered K copies; a list tl of the first k of them. -/
structure KS (w wr : World) (gb K k : Nat) (ov pn : Nat → Nat) (pf : Nat → Nat → Nat) (tl : Value) : Prop where
  gv : ∃ G N F, Gv wr gb gb G 0 39 22 5 1 K N F ∧ (∀ q, q < 30 → ¬ q = 0 → ¬ q = 1 → G q = .slice none 0 0) ∧ (∀ j, j < K → N j ≤ 140737488355328) ∧ (∀ j, j < K → ∃ f : Nat → Nat, F j = bR f ∧ ∀ i, i < N j → f i < 256) ∧ (0 < k → N 0 = pn 0 + 3)
  hk : k ≤ K
  li : OwnR wr gb 22 1 tl k (lR ov pn)
  z0 : k = 0 → tl = .slice none 0 0
  cp : ∀ j, j < k → (∃ C, Blk wr (ov j) C 5) ∧ Bs wr (ov j) 0 (pn j) (pf j)
  wg : w.heap.size ≤ gb
  cc : Chg w wr []
theorem KS.chg {w wr wr' : World} {gb K k : Nat} {ov pn : Nat → Nat} {pf : Nat → Nat → Nat} {tl : Value} (h : KS w wr gb K k ov pn pf tl) (c : Chg wr wr' []) : KS w wr' gb K k ov pn pf tl := by
  obtain ⟨G, N, F, g, q1, q2, q3, q4⟩ := h.gv
  exact ⟨⟨G, N, F, g.chg c, q1, q2, q3, q4⟩, h.hk, h.li.chg c (by simp), h.z0, fun j hj => ⟨by obtain ⟨C, hC⟩ := (h.cp j hj).1; exact ⟨C, hC.chg c (by simp)⟩, (h.cp j hj).2.chg c (by simp)⟩, h.wg, h.cc.trans1 c⟩
theorem KS.chgT {w wr wr' : World} {gb K k : Nat} {ov pn : Nat → Nat} {pf : Nat → Nat → Nat} {tl : Value} (h : KS w wr gb K k ov pn pf tl) {z : Nat} {C : Array Value} {U : TypeId} (hz : Blk wr z C U) (h1 : U ≠ 39) (h2 : U ≠ 22) (h3 : U ≠ 5) (hw : w.heap.size ≤ z) (c : Chg wr wr' [z]) : KS w wr' gb K k ov pn pf tl := by
  obtain ⟨G, N, F, g, q1, q2, q3, q4⟩ := h.gv
  refine ⟨⟨G, N, F, g.chgT hz h1 h2 h3 c, q1, q2, q3, q4⟩, h.hk, h.li.chg c (fun x hx hm => ?_), h.z0, fun j hj => ?_, h.wg, h.cc.new c hw⟩
  · obtain ⟨C', hC'⟩ := ownsRow_blk h.li.1 hx
    exact hz.ne hC' h2 (by simpa using hm : x = z).symm
  · obtain ⟨⟨C', hC'⟩, hB⟩ := h.cp j hj
    have hne : ¬ ov j ∈ [z] := fun hm => hz.ne hC' h3 (by simpa using hm : ov j = z).symm
    exact ⟨⟨C', hC'.chg c hne⟩, hB.chg c hne⟩
theorem KS.of {w wr : World} {gb : Nat} {G : Nat → Value} {i : Nat} {ov pn : Nat → Nat} {pf : Nat → Nat → Nat} {tl : Value} (h : SuI w wr gb G i ov pn pf tl) (hn : ∀ j, j < i → pn j ≤ 1048576) (hf : ∀ j, j < i → ∀ q, q < pn j → pf j q < 256) : KS w wr gb i i ov pn pf tl :=
  ⟨⟨G, _, _, h.gv, h.gz, fun j hj => by have := hn j hj; show pn j + 3 ≤ _; omega, fun j hj => ⟨_, rfl, fun q _ => gvf_lt (hf j hj) q⟩, fun _ => rfl⟩, Nat.le_refl _, h.li, h.z0, h.cp, h.wg, h.cc⟩
/-- What a call of Bytes turns: no block of other kinds than the Given's own. -/
def KQ (wr w1 : World) (gb : Nat) : Prop := ∃ l, Chg wr w1 l ∧ (∀ x, x ∈ l → gb ≤ x) ∧ ∀ z C T, Blk wr z C T → T ≠ 39 → T ≠ 22 → ¬ z ∈ l
theorem KQ.blk {wr w1 : World} {gb : Nat} (h : KQ wr w1 gb) {z : Nat} {C : Array Value} {T : TypeId} (hz : Blk wr z C T) (h1 : T ≠ 39) (h2 : T ≠ 22) : Blk w1 z C T := by
  obtain ⟨l, c, _, f⟩ := h
  exact hz.chg c (f z C T hz h1 h2)
theorem KQ.bs {wr w1 : World} {gb : Nat} (h : KQ wr w1 gb) {z o n : Nat} {f : Nat → Nat} {C : Array Value} (hz : Blk wr z C 5) (hb : Bs wr z o n f) : Bs w1 z o n f := by
  obtain ⟨l, c, _, fr⟩ := h
  exact hb.chg c (fr z C _ hz (by decide) (by decide))
theorem KQ.size {wr w1 : World} {gb : Nat} (h : KQ wr w1 gb) : wr.heap.size ≤ w1.heap.size := by obtain ⟨l, c, _⟩ := h; exact c.size
theorem Ny.kq {wr w1 : World} {gb : Nat} {v : Value} {n : Nat} {f : Nat → Nat} (h : Ny wr v n f) (k : KQ wr w1 gb) : Ny w1 v n f := by
  obtain ⟨l, c, _, fr⟩ := k
  exact h.off c (fun g C B => fr g C _ B (by decide) (by decide))
theorem Ny.chgT {w w' : World} {v : Value} {n : Nat} {f : Nat → Nat} (h : Ny w v n f) {z : Nat} {C : Array Value} {U : TypeId} (hz : Blk w z C U) (h3 : U ≠ 5) (k : Chg w w' [z]) : Ny w' v n f :=
  h.off k (fun g C' B hm => hz.ne B h3 (by simpa using hm : g = z).symm)
/-- A copy that Bytes answered. -/
def Cp (w : World) (o n : Nat) (f : Nat → Nat) : Prop := (∃ C, Blk w o C 5) ∧ Bs w o 0 n f
theorem Cp.kq {wr w1 : World} {gb o n : Nat} {f : Nat → Nat} (h : Cp wr o n f) (k : KQ wr w1 gb) : Cp w1 o n f := by
  obtain ⟨⟨C, hC⟩, hB⟩ := h
  exact ⟨⟨C, k.blk hC (by decide) (by decide)⟩, k.bs hC hB⟩
theorem Cp.chg {w w' : World} {o n : Nat} {f : Nat → Nat} (h : Cp w o n f) (k : Chg w w' []) : Cp w' o n f := by
  obtain ⟨⟨C, hC⟩, hB⟩ := h
  exact ⟨⟨C, hC.chg k (by simp)⟩, hB.chg k (by simp)⟩
theorem Cp.chgT {w w' : World} {o n : Nat} {f : Nat → Nat} (h : Cp w o n f) {z : Nat} {C : Array Value} {U : TypeId} (hz : Blk w z C U) (h3 : U ≠ 5) (k : Chg w w' [z]) : Cp w' o n f := by
  obtain ⟨⟨C', hC'⟩, hB⟩ := h
  have hne : ¬ o ∈ [z] := fun hm => hz.ne hC' h3 (by simpa using hm : o = z).symm
  exact ⟨⟨C', hC'.chg k hne⟩, hB.chg k hne⟩
theorem Cp.sl {w : World} {o n : Nat} {f : Nat → Nat} (h : Cp w o n f) (c : Nat) (h1 : n ≤ c) (h2 : c ≤ 9223372036854775807) : Sl w (.slice (some ⟨o, 0, none⟩) n c) n f := Or.inr ⟨o, 0, c, rfl, h1, h2, h.2⟩
set_option maxHeartbeats 4000000 in
theorem KS.bytes {w wr : World} {gb K k : Nat} {ov pn : Nat → Nat} {pf : Nat → Nat → Nat} {tl : Value} (h : KS w wr gb K k ov pn pf tl) (hK : K ≤ 2000000) {v : Value} {n : Nat} {f : Nat → Nat} (hn : n ≤ 1048576) (hv : Se wr v n f) (hf : ∀ i, i < n → f i < 256) :
    Calls Tryd.prog 9 #[.pointer (some ⟨gb, 0, none⟩), v] wr fun e w1 => ∃ o, e = .returned (.slice (some ⟨o, 0, none⟩) n (n + 3)) ∧ wr.heap.size ≤ o ∧ KS w w1 gb (K + 1) k ov pn pf tl ∧ Cp w1 o n f ∧ KQ wr w1 gb := by
  obtain ⟨G, N, F, g, q1, q2, q3, q4⟩ := h.gv
  have hap : ∀ x, x ∈ ob tl → ¬ x ∈ gch gb G 0 := by
    rcases Nat.eq_zero_or_pos k with h0 | h0
    · intro x hx
      rw [h.z0 h0] at hx
      simp [ob, Value.ownBlock] at hx
    · exact g.apart0 (by decide) (q4 h0) h.li (Nat.lt_of_lt_of_le h0 h.hk) h0
  have hge := g.ge (Nat.le_refl _)
  refine (GivenBytes_ke gb n gb K v f G N F wr (by omega) hK (Nat.le_of_lt g.gb.lt) hv g).mono ?_
  rintro e w1 ⟨r, rfl, o, la, lb, rfl, ho, c1, bo, G1⟩
  have hoff : ∀ z C T, Blk wr z C T → T ≠ 39 → T ≠ 22 → ¬ z ∈ gch gb G 0 := fun z C T hz h1 h2 => g.off hz h1 h2
  refine ⟨o, rfl, ho, ⟨⟨_, _, _, G1, fun q h0 h1 h2 => by rw [upV_other _ _ _ _ h2, upV_other _ _ _ _ h1]; exact q1 q h0 h1 h2, fun j hj => ?_, fun j hj => ?_, fun h0 => ?_⟩, by have := h.hk; omega, h.li.chg c1 hap, h.z0, fun j hj => ?_, h.wg, h.cc.trans c1 (fun x hx => Or.inr (Nat.le_trans h.wg (hge x hx)))⟩, ⟨⟨_, bo⟩, ⟨bo.lt, hf, fun j hj => ?_⟩⟩, ⟨_, c1, hge, hoff⟩⟩
  · show (if j = K then n + 3 else N j) ≤ _
    by_cases e : j = K
    · rw [if_pos e]; omega
    · rw [if_neg e]; exact q2 j (by omega)
  · by_cases e : j = K
    · rw [if_pos e]
      exact ⟨_, rfl, fun q _ => gvf_lt hf q⟩
    · rw [if_neg e, if_neg e]
      exact q3 j (by omega)
  · have := h.hk
    show (if 0 = K then n + 3 else N 0) = _
    rw [if_neg (by omega)]
    exact q4 h0
  · obtain ⟨⟨C, hC⟩, hB⟩ := h.cp j hj
    have hx := hoff _ _ _ hC (by decide) (by decide)
    exact ⟨⟨C, hC.chg c1 hx⟩, hB.chg c1 hx⟩
  · rw [Nat.zero_add, bo.cell, ← yC_bR, yC_get _ _ _ (by omega)]
    unfold gvf
    rw [if_pos hj]
theorem KS.ps {w wr : World} {gb K k : Nat} {ov pn : Nat → Nat} {pf : Nat → Nat → Nat} {tl : Value} (h : KS w wr gb K k ov pn pf tl) (hn : ∀ j, j < k → pn j ≤ 140737488355328) : Ps wr tl k (fun j => .slice (some ⟨ov j, 0, none⟩) (pn j) (pn j + 3)) pn pf := by
  refine ⟨fun j hj => Or.inl (Or.inr ⟨ov j, 0, pn j + 3, rfl, by omega, by have := hn j hj; omega, (h.cp j hj).2⟩), ?_⟩
  rcases h.li.rl.2 with h2 | ⟨g, o, cap, e, h1, h2, h3, h4⟩
  · exact Or.inl h2
  · refine Or.inr ⟨g, o, cap, e, h1, h2, h3, fun j hj => ?_⟩
    have := h4 j hj 0 (.slice (some ⟨ov j, 0, none⟩) (pn j) (pn j + 3)) rfl
    rwa [Nat.mul_one, Nat.add_zero] at this
theorem KS.intact {w wr : World} {gb K k : Nat} {ov pn : Nat → Nat} {pf : Nat → Nat → Nat} {tl : Value} (h : KS w wr gb K k ov pn pf tl) (hK : K ≤ 2000000) : Calls Tryd.prog 18 #[.pointer (some ⟨gb, 0, none⟩)] wr fun e w' => e = .returned (.bool true) ∧ Chg wr w' [] := by
  obtain ⟨G, N, F, g, q1, q2, q3, q4⟩ := h.gv
  exact Intact_be gb gb K G N F wr hK g q1 q2 q3
end Go.Proofs.YthpfdnkcepfbaaaDoor
