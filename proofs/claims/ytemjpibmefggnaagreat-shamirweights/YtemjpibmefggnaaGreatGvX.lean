/- A Given with ints: helpers. -/
import Derived.Test.YtemjpibmefggnaaGreatMgI
set_option linter.unusedVariables false
set_option linter.unusedSimpArgs false
set_option linter.unnecessarySimpa false
namespace Go.Proofs.YtemjpibmefggnaaGreat
open Go.RowKit N

def gNi : Nat → Value := fun _ => .slice none 0 0
theorem Gv.noneE {w : World} {gb base : Nat} {p : Nat} {TG TE T : TypeId} {s : Nat} (h : Blk w gb (gvC gNi) TG) (N : Nat → Nat) (F : Nat → Nat → List Value) : Gv w gb base gNi p TG TE T s 0 N F :=
  ⟨h, [], [], World.ownsRow_nil _ _ _ _, World.ownsRow_nil _ _ _ _, fun x hx => by simp [ob, gNi, Value.ownBlock] at hx, fun j hj => by omega⟩
theorem Gv.geE {w : World} {gb base : Nat} {G : Nat → Value} {p : Nat} {TG TE T : TypeId} {s Kn : Nat} {N : Nat → Nat} {F : Nat → Nat → List Value} (h : Gv w gb base G p TG TE T s Kn N F) (hb : base ≤ gb) : ∀ x, x ∈ gch gb G p → base ≤ x := by
  obtain ⟨vs, us, l1, l2, _⟩ := h.lists
  intro x hx
  rcases List.mem_cons.1 hx with e | hx
  · omega
  · rcases List.mem_append.1 hx with hx | hx
    · exact (l1.lt x (by unfold ob at hx; simpa using hx)).1
    · exact (l2.lt x (by unfold ob at hx; simpa using hx)).1
theorem copy_ilE {w : World} {o n m : Nat} {f : Nat → Int} (h : Blk w o (rL 1 m (gvR (iF mkJ) (iF f) n)).toArray 3) (hn : n ≤ m) (hm : m ≤ 9223372036854775807) : Il w (.slice (some ⟨o, 0, none⟩) n m) n f := by
  refine Rl.il ⟨iF_ok n f, Or.inr ⟨o, 0, m, rfl, hn, hm, h.lt, fun i hi => ?_⟩⟩
  have q := h.rangeRw (gvR_ok mkJ_ok (iF_ok n f) n (Nat.le_refl _)) (show i < m by omega)
  have e : gvR (iF mkJ) (iF f) n i = iF f i := by unfold gvR; rw [if_pos hi]
  rw [e] at q
  rw [Nat.zero_add]
  exact q
theorem gv_intE (n : Nat) (f : Nat → Int) : ∃ h : Nat → Int, gvR (iF mkJ) (iF f) n = iF h := by
  refine ⟨fun i => if i < n then f i else mkJ i, ?_⟩
  funext i
  unfold gvR iF
  by_cases h : i < n
  · rw [if_pos h]; simp only [if_pos h]
  · rw [if_neg h]; simp only [if_neg h]
/-- The other pair of lists, where a call turned this one. -/
theorem Gv.beside {w w' : World} {gb base : Nat} {G G' : Nat → Value} {p : Nat} {TG TE T : TypeId} {s K : Nat} {N : Nat → Nat} {F : Nat → Nat → List Value} {l : List Nat} (h : Gv w gb base G p TG TE T s K N F) (hb : Blk w' gb (gvC G') TG) (h1 : G' p = G p) (h2 : G' (p + 1) = G (p + 1)) (hc : Chg w w' l)
    (hE : ∀ o C, Blk w o C TE → ¬ o ∈ l) (hT : ∀ o C, Blk w o C T → ¬ o ∈ l) : Gv w' gb base G' p TG TE T s K N F := by
  refine ⟨hb, ?_⟩
  obtain ⟨vs, us, l1, l2, hd, hj⟩ := h.lists
  rw [h1, h2]
  refine ⟨vs, us, ownsRow_chg l1 hc (fun k hk => by obtain ⟨C, q⟩ := ownsRow_blk l1 hk; exact hE k C q), ownsRow_chg l2 hc (fun k hk => by obtain ⟨C, q⟩ := ownsRow_blk l2 hk; exact hE k C q), hd, fun j hjk => ?_⟩
  obtain ⟨o, x, q1, q2, q3, q4, q5⟩ := hj j hjk
  exact ⟨o, x, q1, q2, q3, q4.chg hc (hT o _ q4), q5.chg hc (fun k hk => by obtain ⟨C, q⟩ := ownR_blk q5 hk; exact hT k C q)⟩
theorem zeroGv : (Tryz.prog.info? 42).bind (·.zero) = some (.agg (gvC gNi)) := by kernel_rfl
end Go.Proofs.YtemjpibmefggnaaGreat
