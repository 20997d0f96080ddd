/- Open, Unbox: what both sides answer, in one form. -/
import Derived.Test.YtachilkhbfpahaaSwBl
import Derived.Test.YtachilkhbfpahaaSrUb
import Derived.Test.YtachilkhbfpahaaSeCg
set_option linter.unusedVariables false
set_option linter.unusedSimpArgs false
set_option linter.unnecessarySimpa false
namespace Go.Proofs.Ytachilkhbfpahaa
open Go.RowKit

theorem GQ.sz {wr w1 : World} {gb o n c : Nat} {f : Nat → Nat} {C : Array Value} (h : GQ wr w1 gb) (hz : Blk wr o C 5) (hb : Sz wr (.slice (some ⟨o, 0, none⟩) n c) n f) : Sz w1 (.slice (some ⟨o, 0, none⟩) n c) n f := by
  obtain ⟨l, k, _, fr⟩ := h
  refine hb.chg k (fun g' o' n' c' _ e hm => ?_)
  simp only [Value.slice.injEq, Option.some.injEq, Addr.mk.injEq] at e
  obtain ⟨⟨rfl, _⟩, _⟩ := e
  exact fr _ C _ hz (by decide) (by decide) hm
def opN (k nn : Nat → Nat) (n0 : Nat) (f0 : Nat → Nat) (n1 : Nat) (f1 : Nat → Nat) : Nat := if n1 < 16 then 0 else if tagged k nn n0 f0 (n1 - 16) f1 = true then n1 - 16 else 0
def opE (k nn : Nat → Nat) (n0 : Nat) (f0 : Nat → Nat) (n1 : Nat) (f1 : Nat → Nat) : Int := if n1 < 16 then 3 else if tagged k nn n0 f0 (n1 - 16) f1 = true then 0 else 121
theorem Open_a (k nn : Nat → Nat) (hk : ∀ i, i < 32 → k i < 256) (hn : ∀ i, i < 12 → nn i < 256) (v0 : Value) (n0 : Nat) (f0 : Nat → Nat) (v1 : Value) (n1 : Nat) (f1 : Nat → Nat) (w : World) (hv0 : Sz w v0 n0 f0) (hv1 : Sz w v1 n1 f1) (h1 : n1 ≤ 274877906880) :
    Calls Try.prog 20 #[.agg (yC 32 k), .agg (yC 12 nn), v0, v1] w fun e w' => StA w (opN k nn n0 f0 n1 f1) (opE k nn n0 f0 n1 f1) (xo f1 (ks k 1 nn)) e w' := by
  unfold opN opE
  by_cases h : n1 < 16
  · rw [if_pos h, if_pos h]
    refine (Open_short k nn v0 v1 n1 f1 w hv1 h).mono ?_
    rintro e w' ⟨rfl, k1⟩
    exact ⟨_, rfl, Sz.nil0 _ _, k1⟩
  · rw [if_neg h, if_neg h]
    obtain ⟨N, rfl⟩ : ∃ N, n1 = N + 16 := ⟨n1 - 16, by omega⟩
    rw [Nat.add_sub_cancel]
    have hb := hv1.bd
    refine (Open_s k nn hk hn v0 n0 f0 v1 N f1 w hv0 hv1 (by omega)).mono ?_
    rintro e w' (⟨ht, g, rfl, hg, B, k1⟩ | ⟨ht, rfl, k1⟩)
    · rw [if_pos ht, if_pos ht]
      exact ⟨_, rfl, B.szn (xo_lt (fun i hi => hb i (by omega)) (ks_lt k 1 nn)) (by omega), k1⟩
    · rw [if_neg (by rw [ht]; decide), if_neg (by rw [ht]; decide)]
      exact ⟨_, rfl, Sz.nil0 _ _, k1⟩
theorem Open_ra (k nn : Nat → Nat) (hk : ∀ i, i < 32 → k i < 256) (hn : ∀ i, i < 12 → nn i < 256) (v0 : Value) (n0 : Nat) (f0 : Nat → Nat) (v1 : Value) (n1 : Nat) (f1 : Nat → Nat) (w : World) (hv0 : Sz w v0 n0 f0) (hv1 : Sz w v1 n1 f1) (h0 : n0 ≤ 1099511627776) (h1 : n1 ≤ 274877906880) :
    Calls Try.prog 21 #[.agg (yC 32 k), .agg (yC 12 nn), v0, v1] w fun e w' => StA w (opN k nn n0 f0 n1 f1) (opE k nn n0 f0 n1 f1) (xo f1 (ks k 1 nn)) e w' := by
  unfold opN opE
  by_cases h : n1 < 16
  · rw [if_pos h, if_pos h]
    refine (Open_rshort k nn v0 v1 n1 f1 w hv1 h).mono ?_
    rintro e w' ⟨rfl, k1⟩
    exact ⟨_, rfl, Sz.nil0 _ _, k1⟩
  · rw [if_neg h, if_neg h]
    obtain ⟨N, rfl⟩ : ∃ N, n1 = N + 16 := ⟨n1 - 16, by omega⟩
    rw [Nat.add_sub_cancel]
    refine (Open_r k nn hk hn v0 n0 f0 v1 N f1 w hv0 hv1 h0 (by omega) _ rfl).mono ?_
    rintro e w' (⟨ht, v', rfl, O, k1⟩ | ⟨ht, rfl, k1⟩)
    · rw [if_pos ht, if_pos ht]
      exact ⟨_, rfl, O.sz, k1⟩
    · rw [if_neg (by rw [ht]; decide), if_neg (by rw [ht]; decide)]
      exact ⟨_, rfl, Sz.nil0 _ _, k1⟩
/-- Unbox's answers, of both sides: which of the four, by a number. -/
def ubC (k : Nat → Nat) (n0 : Nat) (f0 : Nat → Nat) (n1 : Nat) (f : Nat → Nat) : Nat := if n1 < 28 then 0 else if bxO f = true then (if tagged k f n0 f0 (n1 - 28) (fun i => f (12 + i)) = true then 3 else 2) else 1
def ubN (c n1 : Nat) : Nat := if c = 3 then n1 - 28 else 0
def ubM (c m : Nat) : Nat := if c = 3 then m else 0
def ubE (c : Nat) : Int := if c = 0 then 3 else if c = 1 then 1 else if c = 2 then 121 else 0
def UbA (w : World) (N M : Nat) (E : Int) (X : Nat → Nat) (e : Ending) (w' : World) : Prop := ∃ sv, e = .returned (.tuple #[sv, .int .u64 (M : Int), .int .i64 E]) ∧ Sz w' sv N X ∧ Chg w w' []
theorem Unbox_a (k : Nat → Nat) (hk : ∀ i, i < 32 → k i < 256) (v0 : Value) (n0 : Nat) (f0 : Nat → Nat) (v1 : Value) (n1 : Nat) (f : Nat → Nat) (w : World) (hv0 : Sz w v0 n0 f0) (hv1 : Sz w v1 n1 f) (h1 : n1 ≤ 274877906880) :
    Calls Try.prog 24 #[.agg (yC 32 k), v0, v1] w fun e w' => UbA w (ubN (ubC k n0 f0 n1 f) n1) (ubM (ubC k n0 f0 n1 f) (bxN f)) (ubE (ubC k n0 f0 n1 f)) (xo (fun i => f (12 + i)) (ks k 1 f)) e w' := by
  unfold ubC
  by_cases h : n1 < 28
  · rw [if_pos h]
    refine (Unbox_short k v0 v1 n1 f w hv1 h).mono ?_
    rintro e w' ⟨rfl, k1⟩
    exact ⟨_, rfl, Sz.nil0 _ _, k1⟩
  · rw [if_neg h]
    obtain ⟨N, rfl⟩ : ∃ N, n1 = N + 28 := ⟨n1 - 28, by omega⟩
    rw [Nat.add_sub_cancel]
    have hb := hv1.bd
    refine (Unbox_s k hk v0 n0 f0 v1 N f w hv0 hv1 (by omega)).mono ?_
    rintro e w' (⟨ho, rfl, k1⟩ | ⟨ho, ht, rfl, k1⟩ | ⟨ho, ht, g, rfl, hg, B, k1⟩)
    · rw [if_neg (by rw [ho]; decide)]
      exact ⟨_, rfl, Sz.nil0 _ _, k1⟩
    · rw [if_pos ho, if_neg (by rw [ht]; decide)]
      exact ⟨_, rfl, Sz.nil0 _ _, k1⟩
    · rw [if_pos ho, if_pos ht]
      refine ⟨_, rfl, ?_, k1⟩
      show Sz w' _ (N + 28 - 28) _
      rw [Nat.add_sub_cancel]
      exact B.szn (xo_lt (fun i hi => hb _ (by omega)) (ks_lt k 1 f)) (by omega)
theorem Unbox_ra (k : Nat → Nat) (hk : ∀ i, i < 32 → k i < 256) (v0 : Value) (n0 : Nat) (f0 : Nat → Nat) (v1 : Value) (n1 : Nat) (f : Nat → Nat) (w : World) (hv0 : Sz w v0 n0 f0) (hv1 : Sz w v1 n1 f) (h0 : n0 ≤ 1099511627776) (h1 : n1 ≤ 274877906880) :
    Calls Try.prog 25 #[.agg (yC 32 k), v0, v1] w fun e w' => UbA w (ubN (ubC k n0 f0 n1 f) n1) (ubM (ubC k n0 f0 n1 f) (bxN f)) (ubE (ubC k n0 f0 n1 f)) (xo (fun i => f (12 + i)) (ks k 1 f)) e w' := by
  unfold ubC
  by_cases h : n1 < 28
  · rw [if_pos h]
    refine (Unbox_rshort k v0 v1 n1 f w hv1 h).mono ?_
    rintro e w' ⟨rfl, k1⟩
    exact ⟨_, rfl, Sz.nil0 _ _, k1⟩
  · rw [if_neg h]
    obtain ⟨N, rfl⟩ : ∃ N, n1 = N + 28 := ⟨n1 - 28, by omega⟩
    rw [Nat.add_sub_cancel]
    refine (Unbox_r k hk v0 n0 f0 v1 N f w hv0 hv1 h0 (by omega) _ rfl).mono ?_
    rintro e w' (⟨ho, rfl, k1⟩ | ⟨ho, ht, rfl, k1⟩ | ⟨ho, ht, v', rfl, O, k1⟩)
    · rw [if_neg (by rw [ho]; decide)]
      exact ⟨_, rfl, Sz.nil0 _ _, k1⟩
    · rw [if_pos ho, if_neg (by rw [ht]; decide)]
      exact ⟨_, rfl, Sz.nil0 _ _, k1⟩
    · rw [if_pos ho, if_pos ht]
      refine ⟨_, rfl, ?_, k1⟩
      show Sz w' _ (N + 28 - 28) _
      rw [Nat.add_sub_cancel]
      exact O.sz
theorem Seal_a (k nn : Nat → Nat) (hk : ∀ i, i < 32 → k i < 256) (hn : ∀ i, i < 12 → nn i < 256) (v0 : Value) (n0 : Nat) (f0 : Nat → Nat) (v1 : Value) (n1 : Nat) (f1 : Nat → Nat) (w : World) (hv0 : Sz w v0 n0 f0) (hv1 : Sz w v1 n1 f1) (h1 : n1 ≤ 274877906880) :
    Calls Try.prog 22 #[.agg (yC 32 k), .agg (yC 12 nn), v0, v1] w fun e w' => ∃ sv, e = .returned sv ∧ Sz w' sv (n1 + 16) (sealB k nn n0 f0 n1 f1) ∧ Chg w w' [] := by
  have hb := hv1.bd
  refine (Seal_s k nn hk hn v0 n0 f0 v1 n1 f1 w hv0 hv1 (by omega)).mono ?_
  rintro e w' ⟨g, rfl, hg, B, k1⟩
  exact ⟨_, rfl, B.szn (fun i hi => seal_lt hb i hi) (by omega), k1⟩
theorem Seal_ra (k nn : Nat → Nat) (hk : ∀ i, i < 32 → k i < 256) (hn : ∀ i, i < 12 → nn i < 256) (v0 : Value) (n0 : Nat) (f0 : Nat → Nat) (v1 : Value) (n1 : Nat) (f1 : Nat → Nat) (w : World) (hv0 : Sz w v0 n0 f0) (hv1 : Sz w v1 n1 f1) (h0 : n0 ≤ 1099511627776) (h1 : n1 ≤ 274877906880) :
    Calls Try.prog 23 #[.agg (yC 32 k), .agg (yC 12 nn), v0, v1] w fun e w' => ∃ sv, e = .returned sv ∧ Sz w' sv (n1 + 16) (sealB k nn n0 f0 n1 f1) ∧ Chg w w' [] := by
  refine (Seal_r k nn hk hn v0 n0 f0 v1 n1 f1 w hv0 hv1 h0 h1).mono ?_
  rintro e w' ⟨v', rfl, O, k1⟩
  exact ⟨_, rfl, O.sz, k1⟩
end Go.Proofs.Ytachilkhbfpahaa
