/- joined, order, sum: lists of bytes that the law makes. -/
import Derived.Test.YtcdgkhejbdlapabOwnX
import Derived.Lib.AppendZerosOnto
set_option linter.unusedVariables false
set_option linter.unusedSimpArgs false
set_option linter.unnecessarySimpa false
namespace Go.Proofs.Ytcdgkhejbdlapab
open Go.RowKit

attribute [local irreducible] cat
set_option maxHeartbeats 4000000 in
set_option maxRecDepth 100000 in
theorem joined_s (va vb : Value) (n m : Nat) (f g : Nat → Nat) (hnm : n + m ≤ 211106232532992) (w : World) (ha : Sl w va n f) (hb : Sl w vb m g) :
    Calls Try.prog 22 #[va, vb] w fun e w' => ∃ v, e = .returned v ∧ Own w' w.heap.size v (n + m) (cat f n g) ∧ Chg w w' [] := by
  have O0 := Own.nil w w.heap.size (fun _ => 0)
  have HZ : Hid (∀ t f : Nat → Nat, cat t 0 f = f) := cat_zero
  go_enter Try.func22, Try.ntmps22
  go_wp2_with (first
    | (refine append_y rfl (.tmp 6) (.tmp 7) rfl w.heap.size (.slice none 0 0) va 0 n (fun _ => 0) f rfl rfl O0 ha (by omega) (Nat.le_refl _) ?_; intro a1 w1 O1 q1; rw [Nat.zero_add, HZ.out] at O1; replace q1 : Chg w w1 [] := q1; replace hb := hb.chg q1 (Off.nil _))
    | (refine append_y rfl (.tmp 9) (.tmp 10) rfl w.heap.size a1 vb n m f g rfl rfl O1 hb hnm q1.size ?_; intro a2 w2 O2 q2; replace q2 := q1.trans q2 (fun j hj => Or.inr (O1.ob_ge j hj).1)))
  go_ret
  exact ⟨a2, rfl, O2, q2⟩

/-- append(b, make([]byte, k)...) where b has no room. -/
theorem append_z {w : World} {ops : Array Oper} {rest : List Oper} {o : Oper} {a : Act} {Q : Exit → Act → World → Prop} (hgd : o.guard = none) (s x : Operand)
    (ho : o.op = .call { callee := .builtin .append, args := #[s, x], argTypes := #[34, 3] })
    (g n k : Nat) (f : Nat → Nat) (hs : a.eval s = .slice (some ⟨g, 0, none⟩) n n) (hx : a.eval x = .int .i64 (k : Int)) (hk : 0 < k) (hB : Blk w g (yC n f) 5) (hf : ∀ i, i < n → f i < 256) (hnk : n + k ≤ 1000000) (hn : 0 < n)
    (h : ∀ v' w', Own w' w.heap.size v' (n + k) (cat f n fun _ => 0) → Chg w w' [] → wpList Try.prog ops Q rest (a.put o.dst v') w') : wpList Try.prog ops Q (o :: rest) a w := by
  obtain ⟨i, hi, hz, h1, h2⟩ := u8Row
  have hfc : (Builtin.firstCells i.size n (.slice (some ⟨g, 0, none⟩) n n)).run Try.prog w.drew = .ok (yL n f).toArray w.drew :=
    run_firstCells_some (P := Try.prog) w.drew i.size n ⟨g, 0, none⟩ n n (yL n f) (by rw [yL_len, h1, Nat.mul_one]) (fun j v hv => by
      obtain ⟨hj, rfl⟩ := yL_some n f j v hv
      exact add_cell (by rw [Nat.zero_add]; show w.cell? _ = _; rw [hB.cell, yC_get _ _ _ hj]))
  have hrun := Lib.run_append_grow_zeros (P := Try.prog) w 34 3 o.type 5 i (.int .u8 0) .i64 .i64 Try.underlying34 Try.underlying3 hi hz (some ⟨g, 0, none⟩) n n (yL n f) hfc k hk (by rw [h1]; decide) (by omega) (by omega) (by rw [h2]; omega)
    (growslice_fits_wide (by omega) (by rw [h2]; omega))
  refine wpList_plain hgd fun K hK => ?_
  have hge := grownCap_ge w (n + k) n 5
  have hcm : grownCap w (n + k) n 5 ≤ maxLen := grownCap_le_maxLen w (n + k) n 5 (by simp only [maxLen]; omega)
  have hzc : Builtin.zeroCells (Value.int .u8 0).cells k = (yL k fun _ => 0).toArray := by
    apply Array.ext'
    simp only [Builtin.zeroCells, Value.cells, yL]
    apply List.ext_getElem?
    intro j
    by_cases hj : j < k
    · simp [hj, Nat.mod_one]
    · simp [hj]
  have hO : Own (w.drew.alloc (.cells ((yL n f).toArray ++ Builtin.zeroCells (Value.int .u8 0).cells k ++ Builtin.zeroCells (Value.int .u8 0).cells (grownCap w (n + k) n 5 - (n + k))) 5)) w.heap.size
      (.slice (some ⟨w.heap.size, 0, none⟩) (n + k) (grownCap w (n + k) n 5)) (n + k) (cat f n fun _ => 0) := by
    refine ⟨⟨by rw [yL_len, Nat.mul_one], .inr ⟨w.heap.size, _, _, rfl, Nat.le_refl _, heap_alloc_new w.drew _, hge, hcm, ?_, ?_⟩⟩, ?_⟩
    · simp only [Array.size_append, List.size_toArray, size_zeroCells, yL_len]
      simp [Value.cells]
      omega
    · rw [hzc, ← yL_cat]
      simp only [Array.toList_append, Nat.mul_one]
      rw [show n + k = (yL n f ++ yL k fun _ => 0).length from by rw [List.length_append, yL_len, yL_len]]
      exact List.take_left
    · intro i hi
      unfold cat
      split
      · exact hf i (by assumption)
      · show 0 < 256; decide
  have hC : Chg w (w.drew.alloc (.cells ((yL n f).toArray ++ Builtin.zeroCells (Value.int .u8 0).cells k ++ Builtin.zeroCells (Value.int .u8 0).cells (grownCap w (n + k) n 5 - (n + k))) 5)) [] := ((Chg.refl w []).drew).alloc _
  rw [Array.append_assoc] at hO hC
  unfold Oper.wp
  simp [execOp, ho, resolve, invoke, builtin, hs, hx, hrun, Result.andThen]
  exact hK _ _ (h _ _ hO hC)

/-- The bytes of L less so much. -/
def orf (less i : Nat) : Nat :=
  match i with
  | 0 => 237 - less | 1 => 211 | 2 => 245 | 3 => 92 | 4 => 26 | 5 => 99 | 6 => 18 | 7 => 88 | 8 => 214 | 9 => 156 | 10 => 247 | 11 => 162 | 12 => 222 | 13 => 249 | 14 => 222 | 15 => 20 | 31 => 16 | _ => 0
theorem orf_lt (less i : Nat) : orf less i < 256 := by unfold orf; split <;> omega
theorem orf_16 (less x : Nat) (hx : 237 - less = x) : #[Value.int .u8 (x : Int), .int .u8 211, .int .u8 245, .int .u8 92, .int .u8 26, .int .u8 99, .int .u8 18, .int .u8 88, .int .u8 214, .int .u8 156, .int .u8 247, .int .u8 162, .int .u8 222, .int .u8 249, .int .u8 222, .int .u8 20] = yC 16 (orf less) := by
  subst hx
  unfold yC
  rfl
theorem orf_all (less : Nat) : ∀ i, i < 32 → cat (cat (orf less) 16 fun _ => 0) 31 (fun _ => 16) i = orf less i := by
  intro i hi
  have h : i = 0 ∨ i = 1 ∨ i = 2 ∨ i = 3 ∨ i = 4 ∨ i = 5 ∨ i = 6 ∨ i = 7 ∨ i = 8 ∨ i = 9 ∨ i = 10 ∨ i = 11 ∨ i = 12 ∨ i = 13 ∨ i = 14 ∨ i = 15 ∨ i = 16 ∨ i = 17 ∨ i = 18 ∨ i = 19 ∨ i = 20 ∨ i = 21 ∨ i = 22 ∨ i = 23 ∨ i = 24 ∨ i = 25 ∨ i = 26 ∨ i = 27 ∨ i = 28 ∨ i = 29 ∨ i = 30 ∨ i = 31 := by omega
  unfold cat
  rcases h with rfl | rfl | rfl | rfl | rfl | rfl | rfl | rfl | rfl | rfl | rfl | rfl | rfl | rfl | rfl | rfl | rfl | rfl | rfl | rfl | rfl | rfl | rfl | rfl | rfl | rfl | rfl | rfl | rfl | rfl | rfl | rfl <;> rfl
attribute [local irreducible] orf yC
set_option maxHeartbeats 4000000 in
set_option maxRecDepth 100000 in
theorem order_s (less : Nat) (hl : less ≤ 237) (w : World) :
    Calls Try.prog 19 #[.int .u8 (less : Int)] w fun e w' => ∃ v, e = .returned v ∧ Own w' w.heap.size v 32 (orf less) ∧ Chg w w' [] := by
  obtain ⟨x, hx⟩ : ∃ x, 237 - less = x := ⟨_, rfl⟩
  have e1 : IntKind.u8.wrap (237 - (less : Int)) = (x : Int) := by rw [IntKind.wrap_u8']; omega
  have HC : Hid (#[Value.int .u8 (x : Int), .int .u8 211, .int .u8 245, .int .u8 92, .int .u8 26, .int .u8 99, .int .u8 18, .int .u8 88, .int .u8 214, .int .u8 156, .int .u8 247, .int .u8 162, .int .u8 222, .int .u8 249, .int .u8 222, .int .u8 20] = yC 16 (orf less)) := orf_16 less x hx
  have HA : Hid (∀ i, i < 32 → cat (cat (orf less) 16 fun _ => 0) 31 (fun _ => 16) i = orf less i) := orf_all less
  clear hx
  have B0 := Blk.new w (yC 16 (orf less)) 5
  have q0 : Chg w (w.alloc (.cells (yC 16 (orf less)) 5)) [] := (Chg.refl w []).alloc _
  rw [← HC.out] at B0 q0
  go_enter Try.func19, Try.ntmps19
  go_wp2_with (first
    | (refine append_z rfl (.tmp 7) (.const (.int .i64 15)) rfl w.heap.size 16 15 (orf less) rfl rfl (by decide) (by rw [← HC.out]; exact B0) (fun i _ => orf_lt _ _) (by decide) (by decide) ?_; intro a1 w1 O1 q1; replace q1 := q0.trans1 q1; replace O1 := O1.base (base' := w.heap.size) (by simp)
       have O1' : Own (w1.alloc (.cells #[.int .u8 16] 5)) w.heap.size a1 31 (cat (orf less) 16 fun _ => 0) := O1.chg ((Chg.refl w1 []).alloc _) (fun j _ hx => by simp at hx)
       have S1 : Sl (w1.alloc (.cells #[.int .u8 16] 5)) (.slice (some ⟨w1.heap.size, 0, none⟩) 1 1) 1 (fun _ => 16) := one_sl w1 16 (by decide)
       have K1 : Chg w (w1.alloc (.cells #[.int .u8 16] 5)) [] := q1.alloc _)
    | (refine append_y rfl (.tmp 9) (.tmp 10) rfl w.heap.size a1 (.slice (some ⟨w1.heap.size, 0, none⟩) 1 1) 31 1 (cat (orf less) 16 fun _ => 0) (fun _ => 16) rfl rfl O1' S1 (by omega) K1.size ?_; intro a2 w2 O2 q2; replace O2 := O2.cong HA.out; replace q2 := K1.trans q2 (fun j hj => Or.inr (O1'.ob_ge j hj).1)))
  go_ret
  exact ⟨a2, rfl, O2, q2⟩
end Go.Proofs.Ytcdgkhejbdlapab
