/- Lists of rows that grow by one row: a full one that came from elsewhere, then the call's own. -/
import Derived.Test.YtcdgkhejbdlapabBkSc
import Derived.ArgAppend
set_option linter.unusedVariables false
set_option linter.unusedSimpArgs false
set_option linter.unnecessarySimpa false
namespace Go.Proofs.Ytcdgkhejbdlapab
open Go.RowKit N

/-- A list of n rows that is full and has grown by k rows. -/
def Gr (w : World) (base : Nat) (T : TypeId) (s : Nat) (v : Value) (n k : Nat) (M : Nat → List Value) : Prop :=
  (k = 0 ∧ (∃ p, v = .slice p n n) ∧ Rl w s v n M) ∨ OwnR w base T s v (n + k) M
theorem Gr.chg {w w' : World} {base : Nat} {T : TypeId} {s : Nat} {v : Value} {n k : Nat} {M : Nat → List Value} (h : Gr w base T s v n k M) (hc : Chg w w' []) : Gr w' base T s v n k M := by
  rcases h with ⟨h0, h1, h2⟩ | h
  · exact Or.inl ⟨h0, h1, h2.chg hc (Off.nil _)⟩
  · exact Or.inr (h.chg hc (by simp))
theorem cat_one (M : Nat → List Value) (n : Nat) (i : Nat) (hi : i < n + 1) : catR M n (fun _ => M n) i = M i := by
  unfold catR
  by_cases h : i < n
  · rw [if_pos h]
  · rw [if_neg h]
    have : i = n := by omega
    rw [this]
theorem append_g {P : Program} {w : World} {ops : Array Oper} {rest : List Oper} {o : Oper} {a : Act} {Q : Exit → Act → World → Prop} (hgd : o.guard = none) (so xo : Operand) (t : TypeId)
    (ho : o.op = .call { callee := .builtin .append, args := #[so, xo], argTypes := #[t, t] })
    (e : TypeId) (i : TypeInfo) (z : Value) (s bytes : Nat) (ht : P.underlying t = some (.slice e)) (hi : P.info? e = some i) (hz : i.zero = some z)
    (hsize : i.size = s) (hby : i.bytes = bytes) (hzs : z.cells.size = s) (hsz : 0 < s) (base : Nat) (v x : Value) (n k : Nat) (hn : 0 < n) (M : Nat → List Value) (hM : ∀ r, (M r).length = s ∧ ∀ v ∈ M r, v.oneCell' = true) (hs : a.eval so = v) (hxe : a.eval xo = x)
    (hg : Gr w base e s v n k M) (hx : Rl w s x 1 (fun _ => M (n + k))) (hbytes : (n + k + 1) * bytes ≤ 140737488355328) (h63 : n + k + 1 ≤ 9223372036854775807) (hbase : base ≤ w.heap.size)
    (h : ∀ g cap w' l, OwnR w' base e s (.slice (some ⟨g, 0, none⟩) (n + k + 1) cap) (n + k + 1) M → Chg w w' l → (∀ y, y ∈ l → base ≤ y) → wpList P ops Q rest (a.put o.dst (.slice (some ⟨g, 0, none⟩) (n + k + 1) cap)) w') : wpList P ops Q (o :: rest) a w := by
  rcases hg with ⟨rfl, hv, hr⟩ | hown
  · rcases hx.2 with ⟨h0, _⟩ | ⟨gx, ox, cx, rfl, h1, h2, h3, h4⟩
    · omega
    · rcases hr.2 with ⟨h0, _⟩ | ⟨gv, ov, cv, rfl, k1, k2, k3, k4⟩
      · omega
      · have hcv : n = cv := by obtain ⟨p, hp⟩ := hv; simp at hp; exact hp.2.symm
        subst hcv
        refine wpList_append_grows w hgd so xo t ho e i z s bytes ht hi hz hsize hby hzs hsz (some ⟨gv, ov, none⟩) n n (rL s n M) hs (fun hh => by cases hh) (rL_len s n M) (fun b hb => by cases hb; exact Rl.cells (cap := n) hr.1 k4) ⟨gx, ox, none⟩ 1 cx (rL s 1 fun _ => M (n + 0)) hxe (rL_len s 1 _)
          (Rl.cells (cap := cx) hx.1 h4) (rL_one hx.1) (by omega) (by simpa [maxLen] using h63) hbytes ?_
        intro v' w' q1 q2
        rw [rL_cat] at q1
        simp only [Nat.add_zero] at q1
        rw [rL_congr (fun i hi => cat_one M n i hi)] at q1
        obtain ⟨g, cap, rfl, _, hlt⟩ := q1.form (by omega)
        exact h g cap w' [] ⟨ownsRow_base q1 hbase, fun r _ => hM r⟩ (Chg.grown (v := .slice none 0 0) q2) (fun y hy => by simp at hy)
  · refine wpList_append_r hgd so xo t ho e i z s bytes ht hi hz hsize hby hzs hsz base v x (n + k) 1 M (fun _ => M (n + k)) hs hxe hown hx (by decide) hbytes h63 hbase ?_
    intro g cap w' q1 q2 q3 q4
    refine h g cap w' _ ⟨?_, fun r _ => hM r⟩ q2 (fun y hy => ?_)
    · have q := q1.1
      rw [rL_congr (fun i hi => cat_one M (n + k) i hi)] at q
      exact q
    · obtain ⟨g2, c2, rfl, hb2, _⟩ := hown.1.form (by omega)
      simp [ob, Value.ownBlock] at hy
      omega
end Go.Proofs.Ytcdgkhejbdlapab
