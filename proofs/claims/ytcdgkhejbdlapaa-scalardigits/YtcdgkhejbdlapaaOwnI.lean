/- Slices of ints of the call's own: append of one; rimeplain.SameInts. -/
import Derived.Test.YtcdgkhejbdlapaaDgs
import Derived.Test.YtcdgkhejbdlapaaByt
set_option linter.unusedVariables false
set_option linter.unusedSimpArgs false
set_option linter.unnecessarySimpa false
namespace Go.Proofs.Ytcdgkhejbdlapaa
open Go.RowKit N

def iL (n : Nat) (f : Nat → Int) : List Value := (List.range n).map fun i => Value.int .i64 (f i)
theorem iL_len (n : Nat) (f : Nat → Int) : (iL n f).length = n := by simp [iL]
theorem iL_get (n : Nat) (f : Nat → Int) (i : Nat) (h : i < n) : (iL n f)[i]? = some (.int .i64 (f i)) := by simp [iL, h]
theorem iL_snoc (n : Nat) (f : Nat → Int) (x : Int) (h : f n = x) : iL n f ++ [.int .i64 x] = iL (n + 1) f := by
  subst h
  simp [iL, List.range_succ]
/-- v is a slice of the call's own with n ints f. -/
def OwnI (w : World) (base : Nat) (v : Value) (n : Nat) (f : Nat → Int) : Prop := w.ownsRow base 3 1 v n (iL n f)
theorem OwnI.nil (w : World) (base : Nat) (f : Nat → Int) : OwnI w base (.slice none 0 0) 0 f := World.ownsRow_nil w base _ _
theorem OwnI.chg {w w' : World} {base : Nat} {v : Value} {n : Nat} {f : Nat → Int} {l : List Nat} (h : OwnI w base v n f) (hc : Chg w w' l) (ho : ∀ k ∈ ob v, ¬ k ∈ l) : OwnI w' base v n f := by
  obtain ⟨h0, h1⟩ := h
  refine ⟨h0, ?_⟩
  rcases h1 with h1 | ⟨g, cap, cur, rfl, hg, hh, hr⟩
  · exact Or.inl h1
  · refine Or.inr ⟨g, cap, cur, rfl, hg, ?_, hr⟩
    rw [hc.block g (Array.getElem?_eq_some_iff.1 hh).1 (ho g (by simp [ob, Value.ownBlock]))]
    exact hh
theorem OwnI.ob_ge {w : World} {base : Nat} {v : Value} {n : Nat} {f : Nat → Int} (h : OwnI w base v n f) : ∀ k ∈ ob v, base ≤ k ∧ k < w.heap.size := by
  intro k hk
  exact World.ownsRow.lt h k (by unfold ob at hk; cases hq : v.ownBlock with
    | none => rw [hq] at hk; simp at hk
    | some x => rw [hq] at hk; simp at hk; rw [hk])
theorem OwnI.form {w : World} {base : Nat} {v : Value} {n : Nat} {f : Nat → Int} (h : OwnI w base v n f) (hn : 0 < n) :
    ∃ g cap, v = .slice (some ⟨g, 0, none⟩) n cap ∧ base ≤ g ∧ g < w.heap.size ∧ ∀ i, i < n → w.cell? ⟨g, i, none⟩ = some (.int .i64 (f i)) := by
  obtain ⟨_, h1⟩ := h
  rcases h1 with ⟨_, h1⟩ | ⟨g, cap, cur, rfl, hg, hh, hc, hm, hs, ht⟩
  · omega
  · refine ⟨g, cap, rfl, hg, (Array.getElem?_eq_some_iff.1 hh).1, fun i hi => ?_⟩
    have e := congrArg (fun l => l[i]?) ht
    simp only [Nat.mul_one] at e
    rw [iL_get n f i hi, List.getElem?_take, if_pos hi] at e
    have hb : Blk w g cur 3 := hh
    rw [hb.cell]
    simpa using e
theorem append_i {w : World} {ops : Array Oper} {rest : List Oper} {o : Oper} {a : Act} {Q : Exit → Act → World → Prop} (hgd : o.guard = none) (s x : Operand)
    (ho : o.op = .call { callee := .builtin .append, args := #[s, x], argTypes := #[76, 76] })
    (base : Nat) (vs : Value) (gx : Nat) (n : Nat) (f : Nat → Int) (d : Int) (hs : a.eval s = vs) (hx : a.eval x = .slice (some ⟨gx, 0, none⟩) 1 1) (hown : OwnI w base vs n f) (hB : Blk w gx #[.int .i64 d] 3) (hd : f n = d) (hn : n ≤ 1000) (hbase : base ≤ w.heap.size)
    (h : ∀ v' w', OwnI w' base v' (n + 1) f → Chg w w' (ob vs) → wpList Try.prog ops Q rest (a.put o.dst v') w') : wpList Try.prog ops Q (o :: rest) a w := by
  obtain ⟨i, hi, hz, h1, h2⟩ := intRow
  refine wpList_append_own_wide w hgd s x 76 ho base 3 i (.int .i64 0) 1 8 Try.underlying76 hi hz h1 h2 rfl (by omega) vs n (iL n f) hs hown ⟨gx, 0, none⟩ 1 1 [.int .i64 d] hx rfl
      (fun j u hj => by
        have : j = 0 ∧ u = .int .i64 d := by
          cases j with
          | zero => simp at hj; exact ⟨rfl, hj.symm⟩
          | succ k => simp at hj
        obtain ⟨rfl, rfl⟩ := this
        exact add_cell (by rw [Nat.zero_add]; rw [hB.cell]; rfl)) (by intro v hv; simp at hv; subst hv; rfl) (by simp [maxLen]; omega) (by omega) hbase ?_
  intro v' w' h3 h4 _
  rw [iL_snoc n f d hd] at h3
  exact h v' w' h3 (Chg.grown h4)
/-- A slice of n ints f, wherever it lies. -/
def Si (w : World) (v : Value) (n : Nat) (f : Nat → Int) : Prop := (n = 0 ∧ v = .slice none 0 0) ∨ ∃ g cap, v = .slice (some ⟨g, 0, none⟩) n cap ∧ g < w.heap.size ∧ ∀ i, i < n → w.cell? ⟨g, i, none⟩ = some (.int .i64 (f i))
theorem Si.chg {w w' : World} {v : Value} {n : Nat} {f : Nat → Int} (h : Si w v n f) (hc : Chg w w' []) : Si w' v n f := by
  rcases h with h | ⟨g, cap, rfl, hg, hx⟩
  · exact Or.inl h
  · refine Or.inr ⟨g, cap, rfl, Nat.lt_of_lt_of_le hg hc.size, fun i hi => ?_⟩
    rw [← hx i hi]
    have e := hc.block g hg (by simp)
    simp [World.cell?, e]
theorem OwnI.si {w : World} {base : Nat} {v : Value} {n : Nat} {f : Nat → Int} (h : OwnI w base v n f) (hn : 0 < n) : Si w v n f := by
  obtain ⟨g, cap, rfl, _, hl, hc⟩ := h.form hn
  exact Or.inr ⟨g, cap, rfl, hl, hc⟩
theorem Blk.si {w : World} {g n : Nat} {f : Nat → Int} (h : Blk w g (iC n f) 3) : Si w (.slice (some ⟨g, 0, none⟩) n n) n f :=
  Or.inr ⟨g, n, rfl, h.lt, fun i hi => by rw [h.cell, iC_get _ _ _ hi]⟩
set_option maxHeartbeats 4000000 in
set_option maxRecDepth 100000 in
theorem SameInts_t (va vb : Value) (n : Nat) (f : Nat → Int) (hn : n ≤ 1000) (w : World) (ha : Si w va n f) (hb : Si w vb n f) :
    Calls Try.prog 53 #[va, vb] w fun e w' => e = .returned (.bool true) ∧ Chg w w' [] := by
  rcases ha with ⟨rfl, rfl⟩ | ⟨g, cap, rfl, hgl, hc⟩
  · rcases hb with ⟨_, rfl⟩ | ⟨g, cap, rfl, _, _⟩
    · go_enter Try.func53, Try.ntmps53
      go_wp2_with fail
      go_loopw [5] (fun t wr => t = .int .i64 0 ∧ wr = w) (fun _ _ => 0)
      case atStart => exact ⟨rfl, rfl⟩
      case round =>
        obtain ⟨rfl, rfl⟩ := hrel
        go_wp2_with fail
        go_ret
        exact ⟨rfl, Chg.refl _ _⟩
    · go_enter Try.func53, Try.ntmps53
      go_wp2_with fail
      go_loopw [5] (fun t wr => t = .int .i64 0 ∧ wr = w) (fun _ _ => 0)
      case atStart => exact ⟨rfl, rfl⟩
      case round =>
        obtain ⟨rfl, rfl⟩ := hrel
        go_wp2_with fail
        go_ret
        exact ⟨rfl, Chg.refl _ _⟩
  · obtain ⟨p, cb, rfl, hcb⟩ : ∃ p cb, vb = .slice p n cb ∧ ∀ i, i < n → ∃ g', p = some ⟨g', 0, none⟩ ∧ w.cell? ⟨g', i, none⟩ = some (.int .i64 (f i)) := by
      rcases hb with ⟨rfl, rfl⟩ | ⟨g', cap', rfl, _, hc'⟩
      · exact ⟨none, 0, rfl, fun i hi => by omega⟩
      · exact ⟨_, cap', rfl, fun i hi => ⟨g', rfl, hc' i hi⟩⟩
    go_enter Try.func53, Try.ntmps53
    go_wp2_with fail
    go_loopw [5] (fun t wr => ∃ i m : Nat, i ≤ n ∧ t = .int .i64 (i : Int) ∧ wr = w.drewN m) (fun t _ => (n - intOf t).toNat)
    case atStart => exact ⟨0, 0, Nat.zero_le _, rfl, rfl⟩
    case round =>
      obtain ⟨i, m, hi, rfl, rfl⟩ := hrel
      by_cases h : i < n
      · have hI : (i : Int) < (n : Int) := by omega
        have hI0 : (0 : Int) ≤ (i : Int) := by omega
        obtain ⟨g', rfl, c2⟩ := hcb i h
        have c1 := hc i h
        obtain ⟨y, hy⟩ : ∃ y, f i = y := ⟨_, rfl⟩
        rw [hy] at c1 c2
        clear hy
        have HI1 : Hid (i + 1 ≤ n) := by show i + 1 ≤ n; omega
        have HM : Hid ((n - intOf (.int .i64 ((i : Int) + 1))).toNat < (n - intOf (.int .i64 (i : Int))).toNat) := by show (n - intOf (.int .i64 ((i : Int) + 1))).toNat < (n - intOf (.int .i64 (i : Int))).toNat; simp [intOf]; omega
        clear hc hcb hgl
        go_wp2_with fail
        go_quiet (fail)
        go_wp2_with fail
        exact ⟨⟨i + 1, _, HI1.out, rfl, rfl⟩, HM.out⟩
      · have hI : ¬ (i : Int) < (n : Int) := by omega
        go_wp2_with fail
        go_ret
        exact ⟨rfl, (Chg.refl w []).drewN m⟩
end Go.Proofs.Ytcdgkhejbdlapaa
