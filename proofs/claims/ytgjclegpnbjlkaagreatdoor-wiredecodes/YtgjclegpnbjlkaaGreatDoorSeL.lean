import Derived.Test.YtgjclegpnbjlkaaGreatDoorG
set_option linter.all false
namespace Go.Proofs.YtgjclegpnbjlkaaGreatDoor
open Go.RowKit
section
variable {P : Program} {ops : Array Oper} {Q : Exit → Act → World → Prop} {md : Region.Mode} {S : World → Prop} {B : Nat → Bool}
def wpAnyL (P : Program) (md : Region.Mode) (ops : Array Oper) (Q : Exit → Act → World → Prop) (S : World → Prop) (B : Nat → Bool) : Nat → Array Bool → Act → World → Prop
 | 0, listed, a, w => Region.ready md ops listed = [] ∧ Q .normal a w
 | fuel + 1, listed, a, w =>
   (Region.ready md ops listed = [] → Q .normal a w) ∧
   ∀ i ∈ Region.ready md ops listed, wpOp P ops Q i (fun a' w' => (B i = false → S w → S w') ∧ wpAnyL P md ops Q S B fuel (listed.setIfInBounds i true) a' w') a w
theorem wpAny_of_late : ∀ (fuel : Nat) (listed : Array Bool) (a : Act) (w : World), wpAnyL P md ops Q S B fuel listed a w → wpAny P md ops Q fuel listed a w
 | 0, _, _, _, h => h
 | fuel + 1, _, _, _, h => ⟨h.1, fun i hi => wpOp_mono (fun a' w' h' => wpAny_of_late fuel _ a' w' h'.2) (h.2 i hi)⟩
theorem wpAnyL_first {i : Nat} {oi : Oper} {v : Value} {R : World → Prop} (hi : ops[i]? = some oi) (hsel : ∀ (j : Nat) (o : Oper) cs b, ops[j]? = some o → o.op ≠ .select cs b)
   (hQ : ∀ c a w, Q (.panic c) (a.put oi.dst v) w → Q (.panic c) a w) :
   ∀ (fuel : Nat) (listed : Array Bool) (a : Act) (w : World),
     (∀ j oj, ops[j]? = some oj → j ≠ i → listed.getD j true = false → (∀ e ∈ oj.after, Region.binds md e = true → e.on ≠ i) → oi.apart ops oj = true) →
     ((∀ w, R w) ∨ (R = S ∧ ∀ j oj, ops[j]? = some oj → j ≠ i → listed.getD j true = false → (∀ e ∈ oj.after, Region.binds md e = true → e.on ≠ i) → B j = false)) →
     i ∈ Region.ready md ops listed → YieldsIf P ops R oi v a → R w →
     wpAnyL P md ops Q S B fuel (listed.setIfInBounds i true) (a.put oi.dst v) w → wpAnyL P md ops Q S B (fuel + 1) listed a w := by
 intro fuel
 induction fuel with
 | zero =>
   intro listed a w _ _ hr hy hR H
   refine ⟨fun h => (by rw [h] at hr; cases hr), fun j hj => ?_⟩
   by_cases hji : j = i
   · subst hji; exact hy.wpOp hi hR ⟨fun _ h => h, H⟩
   · have := ready_mono hj hji
     rw [H.1] at this
     cases this
 | succ fuel ih =>
   intro listed a w hfree hlate hr hy hR H
   refine ⟨fun h => (by rw [h] at hr; cases hr), fun j hj => ?_⟩
   by_cases hji : j = i
   · subst hji; exact hy.wpOp hi hR ⟨fun _ h => h, H⟩
   · have h1 := H.2 j (ready_mono hj hji)
     obtain ⟨hjun, oj, hoj, hall⟩ := mem_ready.1 hj
     have hnot : ∀ e ∈ oj.after, Region.binds md e = true → e.on ≠ i := fun e he hb heq => by
       have h1 := hall e he hb
       have h0 := (mem_ready.1 hr).1
       rw [heq] at h1
       rcases Nat.lt_or_ge i listed.size with h' | h'
       · simp [h'] at h0 h1; rw [h0] at h1; cases h1
       · simp [Array.getElem?_eq_none h'] at h1
     have h2 := wpOp_putIf hoj (hfree j oj hoj hji hjun hnot) (fun cs b => hsel i oi cs b hi) (fun cs b => hsel j oj cs b hoj) hQ hy h1
     have hfree' : ∀ k ok, ops[k]? = some ok → k ≠ i → (listed.setIfInBounds j true).getD k true = false →
         (∀ e ∈ ok.after, Region.binds md e = true → e.on ≠ i) → oi.apart ops ok = true := fun k ok hk hki hun hno => by
       refine hfree k ok hk hki ?_ hno
       by_cases hjk : j = k
       · subst hjk; exact hjun
       · rw [getD_set_ne true hjk] at hun; exact hun
     have hlate' : (∀ w, R w) ∨ (R = S ∧ ∀ k ok, ops[k]? = some ok → k ≠ i → (listed.setIfInBounds j true).getD k true = false →
         (∀ e ∈ ok.after, Region.binds md e = true → e.on ≠ i) → B k = false) := by
       rcases hlate with h | ⟨h, hl⟩
       · exact Or.inl h
       · refine Or.inr ⟨h, fun k ok hk hki hun hno => hl k ok hk hki ?_ hno⟩
         by_cases hjk : j = k
         · subst hjk; exact hjun
         · rw [getD_set_ne true hjk] at hun; exact hun
     refine wpOp_mono (fun a' w' h3 => ⟨h3.2.1, ih (listed.setIfInBounds j true) a' w' hfree' hlate' (ready_mono hr (Ne.symm hji)) h3.1 ?_ ?_⟩) h2
     · rcases hlate with h | ⟨h, hl⟩
       · exact h _
       · subst h; exact h3.2.1 (hl j oj hoj hji hjun hnot) hR
     · rw [Array.setIfInBounds_comm _ _ hji]
       exact h3.2.2
def lateB (md : Region.Mode) (ops : Array Oper) (B : Nat → Bool) (listed : Array Bool) (i : Nat) : Bool :=
 (List.range ops.size).all fun j => j == i || listed.getD j true || !B j || match ops[j]? with
     | some oj => oj.after.any (fun e => Region.binds md e && e.on == i)
     | none => true
theorem lateB_spec {i : Nat} {listed : Array Bool} (h : lateB md ops B listed i = true) (j : Nat) (oj : Oper)
   (hj : ops[j]? = some oj) (hne : j ≠ i) (hun : listed.getD j true = false) (hno : ∀ e ∈ oj.after, Region.binds md e = true → e.on ≠ i) : B j = false := by
 simp only [lateB, List.all_eq_true, List.mem_range] at h
 have h1 := h j (Array.getElem?_eq_some_iff.1 hj).1
 simp only [hj, Bool.or_eq_true, beq_iff_eq, hne, false_or, hun, Bool.false_eq_true] at h1
 rcases h1 with h1 | h1
 · simpa using h1
 · obtain ⟨e, he, hb⟩ := Array.any_eq_true'.1 h1
   simp only [Bool.and_eq_true, beq_iff_eq] at hb
   exact absurd hb.2 (hno e he hb.1)
theorem lt_val {oi : Oper} {fuel : Nat} {listed : Array Bool} {a : Act} {w : World} {v : Value} (i : Nat) (d : Option Tmp) (hi : ops[i]? = some oi)
   (hs : Region.noSelect ops = true) (hf : Region.free md ops listed i = true) (hr : (Region.ready md ops listed).contains i = true)
   (hQ : ∀ c a w, Q (.panic c) (a.put d v) w → Q (.panic c) a w) (hd : oi.dst = d) (hw : Region.wanted oi (yielded ops a.tmps) = true)
   (hy : ∀ w, (execOp a.eval oi).run P w = .ok (.value v) w) (h : wpAnyL P md ops Q S B fuel (listed.setIfInBounds i true) (a.put d v) w) : wpAnyL P md ops Q S B (fuel + 1) listed a w := by
 subst hd
 exact wpAnyL_first (R := fun _ => True) hi (Region.noSelect_spec hs) hQ fuel listed a w (Region.free_spec hi hf) (Or.inl fun _ => trivial) (by simpa using hr) (Or.inl ⟨hw, fun w _ => hy w⟩) trivial h
theorem lt_read {oi : Oper} {fuel : Nat} {listed : Array Bool} {a : Act} {w : World} {v : Value} (i : Nat) (d : Option Tmp) (hi : ops[i]? = some oi)
   (hs : Region.noSelect ops = true) (hf : Region.free md ops listed i = true) (hl : lateB md ops B listed i = true) (hr : (Region.ready md ops listed).contains i = true)
   (hQ : ∀ c a w, Q (.panic c) (a.put d v) w → Q (.panic c) a w) (hd : oi.dst = d) (hw : Region.wanted oi (yielded ops a.tmps) = true)
   (hy : ∀ w, S w → (execOp a.eval oi).run P w = .ok (.value v) w) (hS : S w) (h : wpAnyL P md ops Q S B fuel (listed.setIfInBounds i true) (a.put d v) w) : wpAnyL P md ops Q S B (fuel + 1) listed a w := by
 subst hd
 exact wpAnyL_first (R := S) hi (Region.noSelect_spec hs) hQ fuel listed a w (Region.free_spec hi hf) (Or.inr ⟨rfl, lateB_spec hl⟩) (by simpa using hr) (Or.inl ⟨hw, hy⟩) hS h
theorem lv {oi : Oper} {fuel : Nat} {listed : Array Bool} {a : Act} {w : World} (v : Value) (i : Nat) (d : Option Tmp) (hi : ops[i]? = some oi)
   (hy : ∀ w, (execOp a.eval oi).run P w = .ok (.value v) w) (h : wpAnyL P md ops Q S B fuel (listed.setIfInBounds i true) (a.put d v) w)
   (hb : (Region.noSelect ops && (Region.free md ops listed i && (Region.ready md ops listed).contains i)) = true := by kernel_rfl) (hd : oi.dst = d := by exact rfl) (hw : Region.wanted oi (yielded ops a.tmps) = true := by exact rfl)
   (hQ : ∀ c a w, Q (.panic c) (a.put d v) w → Q (.panic c) a w := by exact fun _ _ _ h => h) : wpAnyL P md ops Q S B (fuel + 1) listed a w := by
 simp only [Bool.and_eq_true] at hb
 exact lt_val i d hi hb.1 hb.2.1 hb.2.2 hQ hd hw hy h
theorem lr {oi : Oper} {fuel : Nat} {listed : Array Bool} {a : Act} {w : World} (v : Value) (i : Nat) (d : Option Tmp) (hi : ops[i]? = some oi)
   (hy : ∀ w, S w → (execOp a.eval oi).run P w = .ok (.value v) w) (hS : S w) (h : wpAnyL P md ops Q S B fuel (listed.setIfInBounds i true) (a.put d v) w)
   (hb : (Region.noSelect ops && (Region.free md ops listed i && (lateB md ops B listed i && (Region.ready md ops listed).contains i))) = true := by kernel_rfl) (hd : oi.dst = d := by exact rfl) (hw : Region.wanted oi (yielded ops a.tmps) = true := by exact rfl)
   (hQ : ∀ c a w, Q (.panic c) (a.put d v) w → Q (.panic c) a w := by exact fun _ _ _ h => h) : wpAnyL P md ops Q S B (fuel + 1) listed a w := by
 simp only [Bool.and_eq_true] at hb
 exact lt_read i d hi hb.1 hb.2.1 hb.2.2.1 hb.2.2.2 hQ hd hw hy hS h
theorem lt_one {oi : Oper} {fuel : Nat} {listed : Array Bool} {a : Act} {w : World} (i : Nat) (hi : ops[i]? = some oi) (hr : Region.ready md ops listed = [i]) (hw : Region.wanted oi (yielded ops a.tmps) = true)
   (h : ∀ K' : Act → World → Prop, Shut (∀ a w', (B i = false → S w → S w') → wpAnyL P md ops Q S B fuel (listed.setIfInBounds i true) a w' → K' a w') → Oper.wp P oi a w K' Q) : wpAnyL P md ops Q S B (fuel + 1) listed a w := by
 refine ⟨fun h0 => absurd (hr ▸ h0) (by simp), fun j hj => ?_⟩
 rw [hr] at hj
 obtain rfl : j = i := by simpa using hj
 refine wpOp_step hi (fun K' hK => ?_)
 rw [if_pos hw]
 exact h K' (fun a w' h1 h2 => hK a w' ⟨h1, h2⟩)
theorem lt_done {listed : Array Bool} {a : Act} {w : World} (hr : Region.ready md ops listed = []) (h : Q .normal a w) : ∀ fuel, wpAnyL P md ops Q S B fuel listed a w
 | 0 => ⟨hr, h⟩
 | _ + 1 => ⟨fun _ => h, by rw [hr]; simp⟩
theorem lt_begin {id : Nat} {a : Act} {w : World} (S : World → Prop) (B : Nat → Bool) (hm : P.follows .mixedOrders = true)
   (h : wpAnyL P .any ops Q S B ops.size (Array.replicate ops.size false) a w.drew) : (Code.region id ops true).wp P Q a w := wp_region_any hm (wpAny_of_late _ _ _ _ h)
end
end Go.Proofs.YtgjclegpnbjlkaaGreatDoor
