/- Write of an empty slice that points anywhere; append of one. -/
import Derived.Test.YtjcgjhncdaplcaaDoorH8
set_option linter.unusedVariables false
set_option linter.unusedSimpArgs false
set_option linter.unnecessarySimpa false
namespace Go.Proofs.YtjcgjhncdaplcaaDoor
open Go.RowKit

/-- Bytes, or an empty slice without room that points anywhere. -/
def Se (w : World) (v : Value) (n : Nat) (f : Nat → Nat) : Prop := Sl w v n f ∨ (n = 0 ∧ ∃ a : Addr, v = .slice (some a) 0 0)
theorem Se.chg {w w' : World} {v : Value} {n : Nat} {f : Nat → Nat} (h : Se w v n f) (hc : Chg w w' []) : Se w' v n f := by
  rcases h with h | h
  · exact Or.inl (h.chg hc (Off.nil _))
  · exact Or.inr h
theorem Se.off {w w' : World} {v : Value} {n : Nat} {f : Nat → Nat} (h : Se w v n f) (hc : Chg w w' []) (y : Nat) (hy : w.heap.size ≤ y) : (Sl w' v n f ∧ Off v [y]) ∨ (n = 0 ∧ ∃ a : Addr, v = .slice (some a) 0 0) := by
  rcases h with h | h
  · exact Or.inl ⟨h.chg hc (Off.nil _), h.new [y] (by simpa using hy)⟩
  · exact Or.inr h
theorem append_e {w : World} {ops : Array Oper} {rest : List Oper} {o : Oper} {a : Act} {Q : Exit → Act → World → Prop} (hgd : o.guard = none) (s x : Operand)
    (ho : o.op = .call { callee := .builtin .append, args := #[s, x], argTypes := #[22, 22] })
    (base : Nat) (vs vx : Value) (n m : Nat) (f g : Nat → Nat) (hs : a.eval s = vs) (hx : a.eval x = vx) (hown : Own w base vs n f) (hsl : Se w vx m g) (hnm : n + m ≤ 211106232532992) (hbase : base ≤ w.heap.size)
    (h : ∀ v' w', Own w' base v' (n + m) (cat f n g) → Chg w w' (ob vs) → wpList Tryd.prog ops Q rest (a.put o.dst v') w') : wpList Tryd.prog ops Q (o :: rest) a w := by
  rcases hsl with hsl | ⟨rfl, ad, rfl⟩
  · exact append_y hgd s x ho base vs vx n m f g hs hx hown hsl hnm hbase h
  · obtain ⟨i, hi, hz, h1, h2⟩ := u8Row
    refine wpList_append_own_wide w hgd s x 22 ho base 5 i (.int .u8 0) 1 1 Tryd.underlying22 hi hz h1 h2 rfl (by omega) vs n (yL n f) hs hown.1 ad 0 0 (yL 0 g) hx (by rw [yL_len])
      (fun j u hj => by obtain ⟨hj1, rfl⟩ := yL_some 0 g j u hj; omega) (yL_one 0 g) (by simp [maxLen]; omega) (by omega) hbase ?_
    intro v' w' h3 h4 _
    rw [yL_cat] at h3
    refine h v' w' ⟨h3, fun j hj => ?_⟩ (Chg.grown h4)
    unfold cat
    rw [if_pos (by omega)]
    exact hown.2 j (by omega)

set_option maxHeartbeats 4000000 in
set_option maxRecDepth 100000 in
theorem Write_emp (ag ao : Nat) (asp : Option Nat) (h n : Nat) (s t : Nat → Nat) (w : World) (hn : U n) (hh : Blk w h (hC s t n) 96) :
    Calls Tryd.prog 28 #[.pointer (some ⟨h, 0, none⟩), .slice (some ⟨ag, ao, asp⟩) 0 0] w fun e w' => e = .returned (.tuple #[]) ∧ Chg w w' [h] ∧ Blk w' h (hC s t n) 96 := by
  unfold U at hn
  obtain ⟨r, hr⟩ : ∃ r, n % 128 = r := ⟨_, rfl⟩
  have hr1 : r < 128 := by omega
  have e1 : (n : Int).tmod 128 = (r : Int) := by rw [Int.tmod_eq_emod_of_nonneg (by omega)]; omega
  have e2 : IntKind.u64.wrap (n : Int) = (n : Int) := by rw [IntKind.wrap_u64]; omega
  clear hr
  have c1 := hh.cell 136
  have c2 := hh.cell 137
  rw [hC_taken] at c1
  rw [hC_made] at c2
  have f1' := hh.frozen 136
  have HB := (hh.setCell 136 (.int .u64 (n : Int))).to (hC_take s t n n)
  have CV := (Chg.refl w [h]).setIn (k := h) (by simp) 136 (.int .u64 (n : Int))
  have H8 : Hid (hC s t n = vC 8 s ++ (yC 128 t ++ #[.int .u64 n, .bool true])) := by show _ = _; unfold hC; rfl
  rw [H8.out] at HB
  go_enter Tryd.func28, Tryd.ntmps28
  by_cases hr0 : r = 0
  · subst hr0
    go_wp2_with fail
    go_loopw [1] (fun b wr => b = .slice (some ⟨ag, ao, asp⟩) 0 0 ∧ Blk wr h (vC 8 s ++ (yC 128 t ++ #[.int .u64 n, .bool true])) 96 ∧ Chg w wr [h]) (fun _ _ => 0)
    case atStart => exact ⟨rfl, HB, CV⟩
    case round =>
      clear HB CV
      obtain ⟨rfl, HB, CV⟩ := hrel
      go_wp2_with (refine copy_y rfl (.tmp 69) (.tmp 70) 22 22 rfl 5 Tryd.underlying22 u8Info h 8 128 128 (some ⟨ag, ao, asp⟩) 0 0 rfl rfl (vC 8 _) 128 t _ 96 HB 0 0 (fun _ => 0) (fun hx => absurd hx (by omega)) rfl (fun hx => absurd hx (by omega)) (by omega) ?_; rw [lay_zero]; intro v3 B3 k3)
      go_end0
      exact ⟨rfl, CV.trans1 k3, by rw [H8.out]; exact B3⟩
  · have hrI : (0 : Int) < (r : Int) := by omega
    have hrJ : (r : Int) ≤ 128 := by omega
    have hrK : (r : Int) < 128 := by omega
    have e4 : IntKind.i64.wrap (r : Int) = (r : Int) := by rw [IntKind.wrap_i64]; omega
    have e5 : IntKind.u64.wrap (r : Int) = (r : Int) := by rw [IntKind.wrap_u64]; omega
    go_wp2_with (refine copy_y rfl (.tmp 36) (.tmp 37) 22 22 rfl 5 Tryd.underlying22 u8Info h (8 + r) (128 - r) (128 - r) (some ⟨ag, ao, asp⟩) 0 0 rfl rfl (vC 8 s) 128 t _ 96 HB 0 0 (fun _ => 0) (fun hx => absurd hx (by omega)) (Nat.zero_min _).symm (fun hx => absurd hx (by omega)) (by omega) ?_; rw [lay_zero]; intro v1 B1 k1)
    refine bodyPost_ret (results_none rfl _ _ _) rfl ?_
    exact ⟨rfl, CV.trans1 k1, by rw [H8.out]; exact B1⟩
theorem Write_e (h N m : Nat) (f g : Nat → Nat) (v : Value) (w : World) (hG : Gl w) (H : Hs w h f N) (h2 : 2 ≤ h) (hv : (Sl w v m g ∧ Off v [h]) ∨ (m = 0 ∧ ∃ a : Addr, v = .slice (some a) 0 0)) (hn : N + m < 18446744073709551616) :
    Calls Tryd.prog 28 #[.pointer (some ⟨h, 0, none⟩), v] w fun e w' => e = .returned (.tuple #[]) ∧ Chg w w' [h] ∧ Hs w' h (cat f N g) (N + m) := by
  rcases hv with ⟨hv, ho⟩ | ⟨rfl, ⟨ag, ao, asp⟩, rfl⟩
  · exact Write_h h N m f g v w hG H h2 hv ho hn
  · obtain ⟨t, B, ht1, ht2⟩ := H
    refine (Write_emp ag ao asp h N _ t w (show U N by unfold U; omega) B).mono ?_
    rintro e w' ⟨rfl, k, B'⟩
    refine ⟨rfl, k, t, ?_, ht1, fun j hj => ?_⟩
    · refine B'.to (congrArg (fun q => hC q t N) (run_congr _ fun i hi => ?_))
      unfold cat
      rw [if_pos (by omega)]
    · rw [ht2 j hj]
      unfold cat
      rw [if_pos (by omega)]
      rfl
end Go.Proofs.YtjcgjhncdaplcaaDoor
