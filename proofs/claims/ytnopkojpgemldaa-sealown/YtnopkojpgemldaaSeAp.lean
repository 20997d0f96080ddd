/- append of bytes that may point anywhere where they are none; make; in a region that draws its order, or under a guard. -/
import Derived.Test.YtnopkojpgemldaaSeCt
import Derived.Test.YtnopkojpgemldaaSeM
set_option linter.unusedVariables false
set_option linter.unusedSimpArgs false
set_option linter.unnecessarySimpa false
namespace Go.Proofs.Ytnopkojpgemldaa
open Go.RowKit

theorem run_append_nonec {P : Program} {w : World} (base : Nat) (t ty e : TypeId) (i : TypeInfo) (size : Nat) (ht : P.underlying t = some (.slice e)) (hi : P.info? e = some i)
    (v : Value) (n : Nat) (xs : List Value) (hown : w.ownsRow base e size v n xs) (c : Nat) :
    (Builtin.append_ #[t, t] ty #[v, .slice none 0 c]).run P w = .ok v w := by
  rcases hown.2 with ⟨rfl, rfl⟩ | ⟨g, cap, cur, rfl, _, _, hnc, _⟩
  · simp [Builtin.append_, run_underlying ht, sizeOf, typeInfo, hi, Builtin.lenOf, Builtin.firstCells]
  · simp [Builtin.append_, run_underlying ht, sizeOf, typeInfo, hi, Builtin.lenOf, Builtin.firstCells, hnc, storeCells]
theorem append_zo {w : World} {o : Oper} {a : Act} {K : Act → World → Prop} {Q : Exit → Act → World → Prop} (s x : Operand)
    (ho : o.op = .call { callee := .builtin .append, args := #[s, x], argTypes := #[26, 26] })
    (base : Nat) (vs vx : Value) (n m : Nat) (f g : Nat → Nat) (hs : a.eval s = vs) (hx : a.eval x = vx) (hown : Own w base vs n f) (hsl : Sz w vx m g) (hnm : n + m ≤ 211106232532992) (hbase : base ≤ w.heap.size)
    (h : ∀ v' w', Own w' base v' (n + m) (cat f n g) → Chg w w' (ob vs) → K (a.put o.dst v') w') : o.wp Try.prog a w K Q := by
  obtain ⟨i, hi, hz, h1, h2⟩ := u8Row
  obtain ⟨p, c, rfl, hc1, hc2, hb⟩ := hsl
  by_cases h0 : m = 0
  · subst h0
    have fin : Own w base vs (n + 0) (cat f n g) := by
      refine ⟨?_, fun j hj => ?_⟩
      · have e : yL (n + 0) (cat f n g) = yL n f := by rw [← yL_cat]; simp [yL]
        rw [e]
        exact hown.1
      · unfold cat
        rw [if_pos (by omega)]
        exact hown.2 j (by omega)
    cases p with
    | none =>
      have hrun := run_append_nonec (P := Try.prog) (w := w) base 26 o.type 5 i 1 Try.underlying26 hi vs n (yL n f) hown.1 c
      unfold Oper.wp
      simp [execOp, ho, resolve, invoke, builtin, hs, hx, hrun, Result.andThen]
      exact h vs w fin (Chg.refl w _)
    | some ad =>
      refine wp_append_own_wide w s x 26 ho base 5 i (.int .u8 0) 1 1 Try.underlying26 hi hz h1 h2 rfl (by omega) vs n (yL n f) hs hown.1 ad 0 c [] hx (by simp)
        (fun j u hj => by simp at hj) (by simp) (by simp [maxLen]; omega) (by omega) hbase ?_
      intro v' w' h3 h4 _
      rw [List.append_nil] at h3
      refine h v' w' ⟨?_, fin.2⟩ (Chg.grown h4)
      have e : yL (n + 0) (cat f n g) = yL n f := by rw [← yL_cat]; simp [yL]
      rw [e]
      exact h3
  · obtain ⟨gx, ox, rfl, hbb⟩ := hb (by omega)
    refine wp_append_own_wide w s x 26 ho base 5 i (.int .u8 0) 1 1 Try.underlying26 hi hz h1 h2 rfl (by omega) vs n (yL n f) hs hown.1 ⟨gx, ox, none⟩ m c (yL m g) hx (by rw [yL_len]; omega)
      (fun j u hj => by obtain ⟨hj1, rfl⟩ := yL_some m g j u hj; exact add_cell (hbb.cell j hj1)) (yL_one m g) (by simp [maxLen]; omega) (by omega) hbase ?_
    intro v' w' h3 h4 _
    rw [yL_cat] at h3
    refine h v' w' ⟨h3, fun j hj => ?_⟩ (Chg.grown h4)
    unfold cat
    by_cases hj2 : j < n
    · rw [if_pos hj2]; exact hown.2 j hj2
    · rw [if_neg hj2]; exact hbb.bd _ (by omega)
theorem append_zl {w : World} {ops : Array Oper} {rest : List Oper} {o : Oper} {a : Act} {Q : Exit → Act → World → Prop} (hw : Region.wanted o (yielded ops a.tmps) = true) (s x : Operand)
    (ho : o.op = .call { callee := .builtin .append, args := #[s, x], argTypes := #[26, 26] })
    (base : Nat) (vs vx : Value) (n m : Nat) (f g : Nat → Nat) (hs : a.eval s = vs) (hx : a.eval x = vx) (hown : Own w base vs n f) (hsl : Sz w vx m g) (hnm : n + m ≤ 211106232532992) (hbase : base ≤ w.heap.size)
    (h : ∀ v' w', Own w' base v' (n + m) (cat f n g) → Chg w w' (ob vs) → wpList Try.prog ops Q rest (a.put o.dst v') w') : wpList Try.prog ops Q (o :: rest) a w :=
  wpList_step fun K hK => by rw [if_pos hw]; exact append_zo s x ho base vs vx n m f g hs hx hown hsl hnm hbase fun v' w' q1 q2 => hK _ _ (h v' w' q1 q2)
theorem make_z {w : World} {o : Oper} {a : Act} {K : Act → World → Prop} {Q : Exit → Act → World → Prop} (x y : Operand) (ho : o.op = .makeSlice 26 x y) (r : Nat) (hx : a.eval x = .int .i64 (r : Int)) (hy : a.eval y = .int .i64 (r : Int)) (hr : r ≤ 140737488355456)
    (h : ∀ g w', w.heap.size ≤ g → Blk w' g (yC r fun _ => 0) 5 → Chg w w' [] → K (a.put o.dst (.slice (some ⟨g, 0, none⟩) r r)) w') : o.wp Try.prog a w K Q := by
  unfold Oper.wp execOp
  simp only [ho, hx, hy, Sem.run_bind, make_n r hr w, Sem.run_pure, Result.andThen_ok]
  exact h _ _ (Nat.le_refl _) (Blk.new w _ _) ((Chg.refl w []).alloc _)
theorem Own.blk {w : World} {base g n : Nat} {f : Nat → Nat} (h : Blk w g (yC n f) 5) (hf : ∀ i, i < n → f i < 256) (hb : base ≤ g) (hn : n ≤ 9223372036854775807) : Own w base (.slice (some ⟨g, 0, none⟩) n n) n f := by
  refine ⟨⟨by rw [yL_len]; omega, Or.inr ⟨g, n, yC n f, rfl, hb, h, Nat.le_refl _, by simpa [maxLen] using hn, by rw [yC_size]; omega, ?_⟩⟩, hf⟩
  rw [List.take_of_length_le (by simp [yC_size])]
  rfl
theorem Own.sz {w : World} {base : Nat} {v : Value} {n : Nat} {f : Nat → Nat} (h : Own w base v n f) : Sz w v n f := Sz.of h.sl
theorem Own.form2 {w : World} {base : Nat} {v : Value} {n : Nat} {f : Nat → Nat} (h : Own w base v n f) : ∃ p c, v = .slice p n c := by
  obtain ⟨p, c, e, _⟩ := h.sz
  exact ⟨p, c, e⟩
/-- One byte as a list of its own, under any operand. -/
theorem bsl_x {w : World} {ops : Array Oper} {rest : List Oper} {op : Oper} {a : Act} {Q : Exit → Act → World → Prop} (hgd : op.guard = none) (x : Operand) (ho : op.op = .buildSlice 26 1 #[(0, x)]) (c : Nat) (hx : a.eval x = .int .u8 (c : Int))
    (h : ∀ g w', w.heap.size ≤ g → Blk w' g (yC 1 (fun _ => c)) 5 → Chg w w' [] → wpList Try.prog ops Q rest (a.put op.dst (.slice (some ⟨g, 0, none⟩) 1 1)) w') : wpList Try.prog ops Q (op :: rest) a w := by
  obtain ⟨i, hi, hz, h1, h2⟩ := u8Row
  exact bsl_w hgd 26 5 1 _ ho [(0, .int .u8 (c : Int))] (by simp [hx]) (yC 1 (fun _ => c)) i (.int .u8 0) Try.underlying26 hi hz 1 h1 (by decide) (by decide) (by kernel_rfl) h
/-- A copy of bytes. -/
def CyQ (w : World) (n : Nat) (f : Nat → Nat) (e : Ending) (w' : World) : Prop := ∃ v', e = .returned v' ∧ Own w' w.heap.size v' n f ∧ Chg w w' []
theorem CopyBytes_z (v : Value) (n : Nat) (f : Nat → Nat) (w : World) (hn : n ≤ 211106232532992) (hv : Sz w v n f) : Calls Try.prog 14 #[v] w fun e w' => CyQ w n f e w' := by
  go_enter Try.func14, Try.ntmps14
  go_wp2_with (refine append_zl rfl (.tmp 4) (.tmp 5) rfl w.heap.size (.slice none 0 0) v 0 n f f rfl rfl (Own.nil _ _ f) hv (by omega) (Nat.le_refl _) ?_; intro a1 w1 O1 q1; rw [Nat.zero_add, cat_zero] at O1; replace q1 : Chg w w1 [] := q1)
  go_ret
  exact ⟨a1, rfl, O1, q1⟩
end Go.Proofs.Ytnopkojpgemldaa
