/- Sha512Sums: what its loop keeps. -/
import Derived.Test.YthpfdnkcepfbaaaDoorGvBE
import Derived.Test.YthpfdnkcepfbaaaDoorMgP
import Derived.Test.YthpfdnkcepfbaaaDoorMgM
set_option linter.unusedVariables false
set_option linter.unusedSimpArgs false
set_option linter.unnecessarySimpa false
namespace Go.Proofs.YthpfdnkcepfbaaaDoor
open Go.RowKit

/-- A Given that has nothing. -/
def gNil : Nat → Value := fun _ => .slice none 0 0
theorem zGiven : #[Value.slice none 0 0, .slice none 0 0, .slice none 0 0, .slice none 0 0, .slice none 0 0, .slice none 0 0, .slice none 0 0, .slice none 0 0, .slice none 0 0, .slice none 0 0, .slice none 0 0, .slice none 0 0, .slice none 0 0, .slice none 0 0, .slice none 0 0, .slice none 0 0, .slice none 0 0, .slice none 0 0, .slice none 0 0, .slice none 0 0, .slice none 0 0, .slice none 0 0, .slice none 0 0, .slice none 0 0, .slice none 0 0, .slice none 0 0, .slice none 0 0, .slice none 0 0, .slice none 0 0, .slice none 0 0] = gvC gNil := by kernel_rfl
theorem Gv.none {w : World} {gb base : Nat} {p : Nat} {TG TE T : TypeId} {s : Nat} (h : Blk w gb (gvC gNil) TG) (N : Nat → Nat) (F : Nat → Nat → List Value) : Gv w gb base gNil p TG TE T s 0 N F :=
  ⟨h, [], [], World.ownsRow_nil _ _ _ _, World.ownsRow_nil _ _ _ _, fun x hx => by simp [ob, gNil, Value.ownBlock] at hx, fun j hj => by omega⟩
theorem Gv.ge {w : World} {gb base : Nat} {G : Nat → Value} {p : Nat} {TG TE T : TypeId} {s Kn : Nat} {N : Nat → Nat} {F : Nat → Nat → List Value} (h : Gv w gb base G p TG TE T s Kn N F) (hb : base ≤ gb) : ∀ x, x ∈ gch gb G p → base ≤ x := by
  obtain ⟨vs, us, l1, l2, _⟩ := h.lists
  intro x hx
  rcases List.mem_cons.1 hx with e | hx
  · omega
  · rcases List.mem_append.1 hx with hx | hx
    · exact (l1.lt x (by unfold ob at hx; simpa using hx)).1
    · exact (l2.lt x (by unfold ob at hx; simpa using hx)).1
/-- A list of slices, each of n j with three of room behind it. -/
def lR (ov pn : Nat → Nat) : Nat → List Value := fun j => [.slice (some ⟨ov j, 0, none⟩) (pn j) (pn j + 3)]
theorem lR_ok (ov pn : Nat → Nat) (m : Nat) : Rok 1 m (lR ov pn) := fun j _ => ⟨rfl, by intro v hv; simp [lR] at hv; subst hv; rfl⟩
theorem OwnRcong {w : World} {base : Nat} {T : TypeId} {s : Nat} {v : Value} {n : Nat} {F G : Nat → List Value} (h : OwnR w base T s v n F) (e : ∀ j, j < n → F j = G j) : OwnR w base T s v n G := by
  refine ⟨?_, fun i hi => by rw [← e i hi]; exact h.2 i hi⟩
  rw [← rL_congr e]
  exact h.1
/-- The first cell of a list of the call's own. -/
theorem ownsRow_first {w : World} {base : Nat} {T : TypeId} {v : Value} {n : Nat} {xs : List Value} {x : Nat} {u : Value} (h : w.ownsRow base T 1 v n xs) (hx : x ∈ ob v) (hu : xs[0]? = some u) : w.cell? ⟨x, 0, none⟩ = some u := by
  rcases h.2 with ⟨rfl, _⟩ | ⟨g, cap, cur, rfl, hb, hg, hc⟩
  · simp [ob, Value.ownBlock] at hx
  · simp [ob, Value.ownBlock] at hx
    subst hx
    exact ownsRow_cell h hu
theorem rL_first {ov pn : Nat → Nat} {n : Nat} (h : 0 < n) : (rL 1 n (lR ov pn))[0]? = some (.slice (some ⟨ov 0, 0, none⟩) (pn 0) (pn 0 + 3)) := by
  have e := rL_get (lR_ok ov pn n) h (show 0 < 1 by decide)
  rw [Nat.zero_mul, Nat.add_zero] at e
  rw [e]
  rfl
/-- A list of such slices lies in no list of the Given's. -/
theorem Gv.apart {w : World} {gb base base' : Nat} {G : Nat → Value} {TG T : TypeId} {i n : Nat} {N : Nat → Nat} {F : Nat → Nat → List Value} {ov pn : Nat → Nat} {tl : Value} (h : Gv w gb base G 0 TG 22 T 1 i N F) (hTG : ¬ 22 = TG) (hN : ∀ j, N j = pn j + 3)
    (ho : OwnR w base' 22 1 tl n (lR ov pn)) (h0 : 0 < i) (h1 : 0 < n) : ∀ x, x ∈ ob tl → ¬ x ∈ gch gb G 0 := by
  intro x hx hm
  have c0 := ownsRow_first ho.1 hx (rL_first h1)
  obtain ⟨vs, us, l1, l2, _, hj⟩ := h.lists
  obtain ⟨o, y, q1, q2, q3, q4, q5⟩ := hj 0 h0
  rcases List.mem_cons.1 hm with e | hm
  · obtain ⟨C, hC⟩ := ownsRow_blk ho.1 hx
    exact hC.ne h.gb hTG e
  · rcases List.mem_append.1 hm with hm | hm
    · have c1 := ownsRow_first l1 hm q1
      rw [c0] at c1
      simp only [Option.some.injEq, Value.slice.injEq] at c1
      have := hN 0
      omega
    · have c1 := ownsRow_first l2 hm q2
      obtain ⟨g, cap, rfl, _, _⟩ := q5.1.form (by have := hN 0; omega)
      rw [c0] at c1
      simp only [Option.some.injEq, Value.slice.injEq] at c1
      have := hN 0
      omega
/-- The Given stands where only lists of slices that are not its own are turned. -/
theorem Gv.chgL {w w' : World} {gb base : Nat} {G : Nat → Value} {p : Nat} {TG TE T : TypeId} {s K : Nat} {N : Nat → Nat} {F : Nat → Nat → List Value} {l : List Nat} (h : Gv w gb base G p TG TE T s K N F) (hTT : ¬ T = TE) (hc : Chg w w' l) (hl : ∀ x, x ∈ l → ¬ x ∈ gch gb G p) (hb : ∀ x, x ∈ l → ∃ C, Blk w x C TE) : Gv w' gb base G p TG TE T s K N F := by
  have hoff : ∀ o C, Blk w o C T → ¬ o ∈ l := fun o C hB hm => by obtain ⟨D, hD⟩ := hb o hm; exact hB.ne hD hTT rfl
  refine ⟨h.gb.chg hc (fun hm => hl gb hm (by simp [gch])), ?_⟩
  obtain ⟨vs, us, l1, l2, hd, hj⟩ := h.lists
  refine ⟨vs, us, ownsRow_chg l1 hc (fun k hk hm => hl k hm (by simp [gch, hk])), ownsRow_chg l2 hc (fun k hk hm => hl k hm (by simp [gch, hk])), hd, fun j hjk => ?_⟩
  obtain ⟨o, x, h1, h2, h3, h4, h5⟩ := hj j hjk
  exact ⟨o, x, h1, h2, h3, h4.chg hc (hoff _ _ h4), h5.chg hc (fun k hk => by obtain ⟨C, hC⟩ := ownR_blk h5 hk; exact hoff _ _ hC)⟩
/-- What the loop keeps: the Given, the list of the copies that it answered. -/
structure SuI (w wr : World) (gb : Nat) (G : Nat → Value) (i : Nat) (ov pn : Nat → Nat) (pf : Nat → Nat → Nat) (tl : Value) : Prop where
  gv : Gv wr gb gb G 0 39 22 5 1 i (fun j => pn j + 3) (fun j => bR (gvf (pf j) (pn j)))
  gz : ∀ q, q < 30 → ¬ q = 0 → ¬ q = 1 → G q = .slice none 0 0
  li : OwnR wr gb 22 1 tl i (lR ov pn)
  z0 : i = 0 → tl = .slice none 0 0
  cp : ∀ j, j < i → (∃ C, Blk wr (ov j) C 5) ∧ Bs wr (ov j) 0 (pn j) (pf j)
  wg : w.heap.size ≤ gb
  cc : Chg w wr []
theorem SuI.chg {w wr wr' : World} {gb : Nat} {G : Nat → Value} {i : Nat} {ov pn : Nat → Nat} {pf : Nat → Nat → Nat} {tl : Value} (h : SuI w wr gb G i ov pn pf tl) (k : Chg wr wr' []) : SuI w wr' gb G i ov pn pf tl :=
  ⟨h.gv.chg k, h.gz, h.li.chg k (by simp), h.z0, fun j hj => ⟨by obtain ⟨C, hC⟩ := (h.cp j hj).1; exact ⟨C, hC.chg k (by simp)⟩, (h.cp j hj).2.chg k (by simp)⟩, h.wg, h.cc.trans1 k⟩
theorem SuI.apart {w wr : World} {gb : Nat} {G : Nat → Value} {i : Nat} {ov pn : Nat → Nat} {pf : Nat → Nat → Nat} {tl : Value} (h : SuI w wr gb G i ov pn pf tl) : ∀ x, x ∈ ob tl → ¬ x ∈ gch gb G 0 := by
  rcases Nat.eq_zero_or_pos i with h0 | h0
  · intro x hx
    rw [h.z0 h0] at hx
    simp [ob, Value.ownBlock] at hx
  · exact h.gv.apart (by decide) (fun _ => rfl) h.li h0 h0
/-- Behind a call of Bytes with the next part: the copy is new, the list stands. -/
theorem SuI.bytes {w wr w1 : World} {gb : Nat} {G : Nat → Value} {i : Nat} {ov pn : Nat → Nat} {pf : Nat → Nat → Nat} {tl la lb : Value} {o : Nat} (h : SuI w wr gb G i ov pn pf tl) (hc : Chg wr w1 (gch gb G 0)) (hf : ∀ j, j < pn i → pf i j < 256) (ho : wr.heap.size ≤ o) (bo : Blk w1 o (rL 1 (pn i + 3) (bR (gvf (pf i) (pn i)))).toArray 5)
    (g1 : Gv w1 gb gb (upV (upV G 0 la) (0 + 1) lb) 0 39 22 5 1 (i + 1) (fun j => if j = i then pn i + 3 else pn j + 3) (fun j => if j = i then bR (gvf (pf i) (pn i)) else bR (gvf (pf j) (pn j)))) :
    Gv w1 gb gb (upV (upV G 0 la) (0 + 1) lb) 0 39 22 5 1 (i + 1) (fun j => pn j + 3) (fun j => bR (gvf (pf j) (pn j))) ∧ OwnR w1 gb 22 1 tl i (lR ov pn) ∧
      (∀ j, j < i → (∃ C, Blk w1 (ov j) C 5) ∧ Bs w1 (ov j) 0 (pn j) (pf j)) ∧ Bs w1 o 0 (pn i) (pf i) ∧ Chg w w1 [] := by
  refine ⟨?_, h.li.chg hc h.apart, fun j hj => ?_, ⟨bo.lt, hf, fun j hj => ?_⟩, h.cc.trans hc (fun x hx => Or.inr (Nat.le_trans h.wg (h.gv.ge (Nat.le_refl _) x hx)))⟩
  · have e1 : (fun j => if j = i then pn i + 3 else pn j + 3) = fun j => pn j + 3 := by funext j; by_cases e : j = i <;> simp [e]
    have e2 : (fun j => if j = i then bR (gvf (pf i) (pn i)) else bR (gvf (pf j) (pn j))) = fun j => bR (gvf (pf j) (pn j)) := by
      funext j
      by_cases e : j = i
      · rw [if_pos e, e]
      · rw [if_neg e]
    rw [e1, e2] at g1
    exact g1
  · obtain ⟨⟨C, hC⟩, hB⟩ := h.cp j hj
    have hoff := h.gv.off hC (by decide) (by decide)
    exact ⟨⟨C, hC.chg hc hoff⟩, hB.chg hc hoff⟩
  · rw [Nat.zero_add, bo.cell, ← yC_bR, yC_get _ _ _ (by omega)]
    unfold gvf
    rw [if_pos hj]
/-- Behind the append too. -/
theorem SuI.step {w w1 w2 : World} {gb : Nat} {G : Nat → Value} {i : Nat} {ov pn : Nat → Nat} {pf : Nat → Nat → Nat} {tl a : Value} {o : Nat} (hg : w.heap.size ≤ gb)
    (g1 : Gv w1 gb gb G 0 39 22 5 1 (i + 1) (fun j => pn j + 3) (fun j => bR (gvf (pf j) (pn j)))) (gz : ∀ q, q < 30 → ¬ q = 0 → ¬ q = 1 → G q = .slice none 0 0) (l1 : OwnR w1 gb 22 1 tl i (lR ov pn)) (z0 : i = 0 → tl = .slice none 0 0)
    (cp : ∀ j, j < i → (∃ C, Blk w1 (ov j) C 5) ∧ Bs w1 (ov j) 0 (pn j) (pf j)) (co : (∃ C, Blk w1 o C 5) ∧ Bs w1 o 0 (pn i) (pf i)) (cc : Chg w w1 []) (hc : Chg w1 w2 (ob tl))
    (l2 : OwnR w2 gb 22 1 a (i + 1) (catR (lR ov pn) i (fun _ => [.slice (some ⟨o, 0, none⟩) (pn i) (pn i + 3)]))) : SuI w w2 gb G (i + 1) (fun j => if j < i then ov j else o) pn pf a := by
  have ht : ∀ x, x ∈ ob tl → ¬ x ∈ gch gb G 0 := by
    rcases Nat.eq_zero_or_pos i with h0 | h0
    · intro x hx
      rw [z0 h0] at hx
      simp [ob, Value.ownBlock] at hx
    · exact g1.apart (by decide) (fun _ => rfl) l1 (by omega) h0
  have hb : ∀ x, x ∈ ob tl → ∃ C, Blk w1 x C 22 := fun x hx => ownsRow_blk l1.1 hx
  have hoff : ∀ o C, Blk w1 o C 5 → ¬ o ∈ ob tl := fun o C hB hm => by obtain ⟨D, hD⟩ := hb o hm; exact hB.ne hD (by decide) rfl
  refine ⟨g1.chgL (by decide) hc ht hb, gz, ?_, fun h => by omega, fun j hj => ?_, hg, cc.trans hc (fun x hx => Or.inr (Nat.le_trans hg (l1.1.lt x (by unfold ob at hx; simpa using hx)).1))⟩
  · refine OwnRcong l2 (fun j hj => ?_)
    unfold catR lR
    by_cases h : j < i
    · rw [if_pos h]
      simp only [h, if_true]
    · rw [if_neg h]
      obtain rfl : j = i := by omega
      simp only [h, if_false]
  · by_cases h : j < i
    · simp only [h, if_pos]
      obtain ⟨⟨C, hC⟩, hB⟩ := cp j h
      exact ⟨⟨C, hC.chg hc (hoff _ _ hC)⟩, hB.chg hc (hoff _ _ hC)⟩
    · simp only [h, if_false]
      obtain ⟨⟨C, hC⟩, hB⟩ := co
      obtain rfl : j = i := by omega
      exact ⟨⟨C, hC.chg hc (hoff _ _ hC)⟩, hB.chg hc (hoff _ _ hC)⟩
/-- The list, as parts. -/
theorem SuI.ps {w wr : World} {gb : Nat} {G : Nat → Value} {k : Nat} {ov pn : Nat → Nat} {pf : Nat → Nat → Nat} {tl : Value} (h : SuI w wr gb G k ov pn pf tl) (hn : ∀ j, j < k → pn j ≤ 140737488355328) : Ps wr tl k (fun j => .slice (some ⟨ov j, 0, none⟩) (pn j) (pn j + 3)) pn pf := by
  refine ⟨fun j hj => Or.inl (Or.inr ⟨ov j, 0, pn j + 3, rfl, by omega, by have := hn j hj; omega, (h.cp j hj).2⟩), ?_⟩
  rcases h.li.rl.2 with h2 | ⟨g, o, cap, e, h1, h2, h3, h4⟩
  · exact Or.inl h2
  · refine Or.inr ⟨g, o, cap, e, h1, h2, h3, fun j hj => ?_⟩
    have := h4 j hj 0 (.slice (some ⟨ov j, 0, none⟩) (pn j) (pn j + 3)) rfl
    rwa [Nat.mul_one, Nat.add_zero] at this
end Go.Proofs.YthpfdnkcepfbaaaDoor
