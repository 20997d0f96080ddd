/- rimeplain.Given: its thirty lists as a function; a pair of its lists (what was handed in, and its twins). Of no package. -/
import Derived.Test.YtgfeopingompdaaGreatDoorMwA
set_option linter.unusedVariables false
set_option linter.unusedSimpArgs false
set_option linter.unnecessarySimpa false
namespace Go.Proofs.YtgfeopingompdaaGreatDoor
open Go.RowKit

/-- A Given's thirty lists. -/
def gvC (G : Nat → Value) : Array Value := ((List.range 30).map G).toArray
theorem gvC_get (G : Nat → Value) (k : Nat) (h : k < 30) : (gvC G)[k]? = some (G k) := by simp [gvC, h]
def upV (G : Nat → Value) (i : Nat) (v : Value) : Nat → Value := fun j => if j = i then v else G j
theorem upV_same (G : Nat → Value) (i : Nat) (v : Value) : upV G i v i = v := by simp [upV]
theorem upV_other (G : Nat → Value) (i : Nat) (v : Value) (j : Nat) (h : ¬ j = i) : upV G i v j = G j := by simp [upV, h]
theorem gvC_set (G : Nat → Value) (i : Nat) (v : Value) : (gvC G).setIfInBounds i v = gvC (upV G i v) := by
  apply Array.ext_getElem?
  intro k
  by_cases h : k < 30
  · rw [gvC_get _ _ h]
    by_cases h2 : i = k
    · subst h2
      rw [Array.getElem?_setIfInBounds_self_of_lt (by simp [gvC]; exact h), upV_same]
    · rw [Array.getElem?_setIfInBounds_ne h2, gvC_get _ _ h, upV_other _ _ _ _ (fun e => h2 e.symm)]
  · rw [Array.getElem?_eq_none (by simp [gvC]; omega), Array.getElem?_eq_none (by simp [gvC]; omega)]
theorem Blk.ne {w : World} {a b : Nat} {C D : Array Value} {T U : TypeId} (h : Blk w a C T) (k : Blk w b D U) (hT : ¬ T = U) : ¬ a = b := by
  intro e
  subst e
  have : (some (Obj.cells C T (0, 0))) = some (Obj.cells D U (0, 0)) := by rw [← h, ← k]
  simp at this
  exact hT this.2
theorem ownsRow_blk {w : World} {base : Nat} {T : TypeId} {s : Nat} {v : Value} {n : Nat} {xs : List Value} (h : w.ownsRow base T s v n xs) {k : Nat} (hk : k ∈ ob v) : ∃ C, Blk w k C T := by
  rcases h.2 with ⟨rfl, _⟩ | ⟨g, cap, cur, rfl, hb, hg, _⟩
  · simp [ob, Value.ownBlock] at hk
  · simp [ob, Value.ownBlock] at hk
    subst hk
    exact ⟨cur, hg⟩
/-- The pair of lists at p and p + 1 of a Given in block gb: K copies, of N j rows F j each, and their twins. -/
structure Gv (w : World) (gb base : Nat) (G : Nat → Value) (p : Nat) (TG TE T : TypeId) (s K : Nat) (N : Nat → Nat) (F : Nat → Nat → List Value) : Prop where
  gb : Blk w gb (gvC G) TG
  lists : ∃ vs us : List Value, w.ownsRow base TE 1 (G p) K vs ∧ w.ownsRow base TE 1 (G (p + 1)) K us ∧ (∀ x, x ∈ ob (G p) → ¬ x ∈ ob (G (p + 1))) ∧
    ∀ j, j < K → ∃ o x, vs[j]? = some (.slice (some ⟨o, 0, none⟩) (N j) (N j)) ∧ us[j]? = some x ∧ N j ≤ 9223372036854775807 ∧ Blk w o (rL s (N j) (F j)).toArray T ∧ OwnR w base T s x (N j) (F j)
/-- What a call of Given may turn. -/
def gch (gb : Nat) (G : Nat → Value) (p : Nat) : List Nat := gb :: (ob (G p) ++ ob (G (p + 1)))
theorem Gv.off {w : World} {gb base : Nat} {G : Nat → Value} {p : Nat} {TG TE T : TypeId} {s K : Nat} {N : Nat → Nat} {F : Nat → Nat → List Value} (h : Gv w gb base G p TG TE T s K N F) {o : Nat} {C : Array Value} {U : TypeId} (hb : Blk w o C U) (h1 : ¬ U = TG) (h2 : ¬ U = TE) : ¬ o ∈ gch gb G p := by
  obtain ⟨vs, us, l1, l2, _⟩ := h.lists
  intro hm
  rcases List.mem_cons.1 hm with e | hm
  · exact hb.ne h.gb h1 e
  · rcases List.mem_append.1 hm with hm | hm
    · obtain ⟨C', hC⟩ := ownsRow_blk l1 hm
      exact hb.ne hC h2 rfl
    · obtain ⟨C', hC⟩ := ownsRow_blk l2 hm
      exact hb.ne hC h2 rfl
theorem ownR_blk {w : World} {base : Nat} {T : TypeId} {s : Nat} {v : Value} {n : Nat} {F : Nat → List Value} (h : OwnR w base T s v n F) {k : Nat} (hk : k ∈ ob v) : ∃ C, Blk w k C T := ownsRow_blk h.1 hk
/-- It stands where nothing old is turned. -/
theorem Gv.chg {w w' : World} {gb base : Nat} {G : Nat → Value} {p : Nat} {TG TE T : TypeId} {s K : Nat} {N : Nat → Nat} {F : Nat → Nat → List Value} (h : Gv w gb base G p TG TE T s K N F) (hc : Chg w w' []) : Gv w' gb base G p TG TE T s K N F := by
  refine ⟨h.gb.chg hc (by simp), ?_⟩
  obtain ⟨vs, us, l1, l2, hd, hj⟩ := h.lists
  refine ⟨vs, us, ownsRow_chg l1 hc (by simp), ownsRow_chg l2 hc (by simp), hd, fun j hjk => ?_⟩
  obtain ⟨o, x, h1, h2, h3, h4, h5⟩ := hj j hjk
  exact ⟨o, x, h1, h2, h3, h4.chg hc (by simp), h5.chg hc (by simp)⟩
theorem ob_slice (g n c : Nat) : ob (.slice (some ⟨g, 0, none⟩) n c) = [g] := rfl
/-- One more, and its twin: behind both appends. -/
theorem Gv.more {w w' : World} {gb base : Nat} {G : Nat → Value} {p : Nat} {TG TE T : TypeId} {s K : Nat} {N : Nat → Nat} {F : Nat → Nat → List Value} (h : Gv w gb base G p TG TE T s K N F) (hT1 : ¬ T = TG) (hT2 : ¬ T = TE)
    (hc : Chg w w' (gch gb G p)) {la lb : Value} {vs0 us0 : List Value} {o : Nat} {x : Value} {m : Nat} {H : Nat → List Value}
    (k1 : w.ownsRow base TE 1 (G p) K vs0) (k2 : w.ownsRow base TE 1 (G (p + 1)) K us0) (hj : ∀ j, j < K → ∃ o x, vs0[j]? = some (.slice (some ⟨o, 0, none⟩) (N j) (N j)) ∧ us0[j]? = some x ∧ N j ≤ 9223372036854775807 ∧ Blk w o (rL s (N j) (F j)).toArray T ∧ OwnR w base T s x (N j) (F j))
    (hgb : Blk w' gb (gvC (upV (upV G p la) (p + 1) lb)) TG) (l1 : w'.ownsRow base TE 1 la (K + 1) (vs0 ++ [.slice (some ⟨o, 0, none⟩) m m])) (l2 : w'.ownsRow base TE 1 lb (K + 1) (us0 ++ [x])) (hd : ∀ x, x ∈ ob la → ¬ x ∈ ob lb)
    (hm : m ≤ 9223372036854775807) (ho : Blk w' o (rL s m H).toArray T) (hx : OwnR w' base T s x m H) :
    Gv w' gb base (upV (upV G p la) (p + 1) lb) p TG TE T s (K + 1) (fun j => if j = K then m else N j) (fun j => if j = K then H else F j) := by
  refine ⟨hgb, ?_⟩
  have e1 : upV (upV G p la) (p + 1) lb p = la := by rw [upV_other _ _ _ _ (by omega), upV_same]
  have e2 : upV (upV G p la) (p + 1) lb (p + 1) = lb := upV_same _ _ _
  rw [e1, e2]
  have hoff := fun o C hb => h.off (o := o) (C := C) (U := T) hb hT1 hT2
  have s1 : vs0.length = K := by have := k1.1; omega
  have s2 : us0.length = K := by have := k2.1; omega
  refine ⟨_, _, l1, l2, hd, fun j hjk => ?_⟩
  by_cases hjK : j = K
  · subst hjK
    refine ⟨o, x, ?_, ?_, ?_, ?_, ?_⟩
    · rw [List.getElem?_append_right (by omega), s1, if_pos rfl]; simp
    · rw [List.getElem?_append_right (by omega), s2]; simp
    · rw [if_pos rfl]; exact hm
    · rw [if_pos rfl, if_pos rfl]; exact ho
    · rw [if_pos rfl, if_pos rfl]; exact hx
  · obtain ⟨o', x', q1, q2, q3, q4, q5⟩ := hj j (by omega)
    refine ⟨o', x', ?_, ?_, ?_, ?_, ?_⟩
    · rw [List.getElem?_append_left (by omega), if_neg hjK]; exact q1
    · rw [List.getElem?_append_left (by omega)]; exact q2
    · rw [if_neg hjK]; exact q3
    · rw [if_neg hjK, if_neg hjK]; exact q4.chg hc (hoff _ _ q4)
    · rw [if_neg hjK, if_neg hjK]
      exact q5.chg hc (fun k hk => by obtain ⟨C, hC⟩ := ownR_blk q5 hk; exact hoff _ _ hC)
/-- The rows of a copy that is handed in: those that came, and marks behind them. -/
def gvR (mk F : Nat → List Value) (n : Nat) : Nat → List Value := fun j => if j < n then F j else mk j
def gvR1 (mk : Nat → List Value) (z : List Value) (i : Nat) : Nat → List Value := fun j => if j < i then mk j else z
theorem gvR1_step (mk : Nat → List Value) (z : List Value) (i : Nat) : upR (gvR1 mk z i) i (mk i) = gvR1 mk z (i + 1) := by
  funext j; unfold upR gvR1
  by_cases h : j = i
  · subst h; rw [if_pos rfl, if_pos (by omega)]
  · rw [if_neg h]
    by_cases h2 : j < i
    · rw [if_pos h2, if_pos (by omega)]
    · rw [if_neg h2, if_neg (by omega)]
theorem gvR_step (mk F : Nat → List Value) (i : Nat) : upR (gvR mk F i) i (F i) = gvR mk F (i + 1) := by
  funext j; unfold upR gvR
  by_cases h : j = i
  · subst h; rw [if_pos rfl, if_pos (by omega)]
  · rw [if_neg h]
    by_cases h2 : j < i
    · rw [if_pos h2, if_pos (by omega)]
    · rw [if_neg h2, if_neg (by omega)]
theorem gvR1_ok {s m : Nat} {mk : Nat → List Value} {z : List Value} (hm : ∀ i, (mk i).length = s ∧ ∀ v ∈ mk i, v.oneCell' = true) (hz : z.length = s ∧ ∀ v ∈ z, v.oneCell' = true) (i : Nat) : Rok s m (gvR1 mk z i) := fun j _ => by
  unfold gvR1
  by_cases h : j < i
  · rw [if_pos h]; exact hm j
  · rw [if_neg h]; exact hz
theorem gvR_ok {s m n : Nat} {mk F : Nat → List Value} (hm : ∀ i, (mk i).length = s ∧ ∀ v ∈ mk i, v.oneCell' = true) (hF : Rok s n F) (i : Nat) (hi : i ≤ n) : Rok s m (gvR mk F i) := fun j _ => by
  unfold gvR
  by_cases h : j < i
  · rw [if_pos h]; exact hF j (by omega)
  · rw [if_neg h]; exact hm j
end Go.Proofs.YtgfeopingompdaaGreatDoor
