/- Joined: WrE, H14, H15. -/
import Derived.Test.YthpfdnkcepfbaaaDoorH8
import Derived.Test.YthpfdnkcepfbaaaDoorH13
/- Write of an empty slice that points anywhere; append of one. -/
set_option linter.unusedVariables false
set_option linter.unusedSimpArgs false
set_option linter.unnecessarySimpa false
namespace Go.Proofs.YthpfdnkcepfbaaaDoor
open Go.RowKit

/-- Bytes, or an empty slice without room that points anywhere. -/
def Se (w : World) (v : Value) (n : Nat) (f : Nat → Nat) : Prop := Sl w v n f ∨ (n = 0 ∧ ∃ a : Addr, v = .slice (some a) 0 0)
theorem Se.chg {w w' : World} {v : Value} {n : Nat} {f : Nat → Nat} (h : Se w v n f) (hc : Chg w w' []) : Se w' v n f := by
  rcases h with h | h
  · exact Or.inl (h.chg hc (Off.nil _))
  · exact Or.inr h
theorem Se.off {w w' : World} {v : Value} {n : Nat} {f : Nat → Nat} (h : Se w v n f) (hc : Chg w w' []) (y : Nat) (hy : w.heap.size ≤ y) : (Sl w' v n f ∧ Off v [y]) ∨ (n = 0 ∧ ∃ a : Addr, v = .slice (some a) 0 0) := by
  rcases h with h | h
  · exact Or.inl ⟨h.chg hc (Off.nil _), h.new [y] (by simpa using hy)⟩
  · exact Or.inr h
theorem append_e {w : World} {ops : Array Oper} {rest : List Oper} {o : Oper} {a : Act} {Q : Exit → Act → World → Prop} (hgd : o.guard = none) (s x : Operand)
    (ho : o.op = .call { callee := .builtin .append, args := #[s, x], argTypes := #[22, 22] })
    (base : Nat) (vs vx : Value) (n m : Nat) (f g : Nat → Nat) (hs : a.eval s = vs) (hx : a.eval x = vx) (hown : Own w base vs n f) (hsl : Se w vx m g) (hnm : n + m ≤ 211106232532992) (hbase : base ≤ w.heap.size)
    (h : ∀ v' w', Own w' base v' (n + m) (cat f n g) → Chg w w' (ob vs) → wpList Tryd.prog ops Q rest (a.put o.dst v') w') : wpList Tryd.prog ops Q (o :: rest) a w := by
  rcases hsl with hsl | ⟨rfl, ad, rfl⟩
  · exact append_y hgd s x ho base vs vx n m f g hs hx hown hsl hnm hbase h
  · obtain ⟨i, hi, hz, h1, h2⟩ := u8Row
    refine wpList_append_own_wide w hgd s x 22 ho base 5 i (.int .u8 0) 1 1 Tryd.underlying22 hi hz h1 h2 rfl (by omega) vs n (yL n f) hs hown.1 ad 0 0 (yL 0 g) hx (by rw [yL_len])
      (fun j u hj => by obtain ⟨hj1, rfl⟩ := yL_some 0 g j u hj; omega) (yL_one 0 g) (by simp [maxLen]; omega) (by omega) hbase ?_
    intro v' w' h3 h4 _
    rw [yL_cat] at h3
    refine h v' w' ⟨h3, fun j hj => ?_⟩ (Chg.grown h4)
    unfold cat
    rw [if_pos (by omega)]
    exact hown.2 j (by omega)

set_option maxHeartbeats 4000000 in
set_option maxRecDepth 100000 in
theorem Write_emp (ag ao : Nat) (asp : Option Nat) (h n : Nat) (s t : Nat → Nat) (w : World) (hn : U n) (hh : Blk w h (hC s t n) 157) :
    Calls Tryd.prog 43 #[.pointer (some ⟨h, 0, none⟩), .slice (some ⟨ag, ao, asp⟩) 0 0] w fun e w' => e = .returned (.tuple #[]) ∧ Chg w w' [h] ∧ Blk w' h (hC s t n) 157 := by
  unfold U at hn
  obtain ⟨r, hr⟩ : ∃ r, n % 128 = r := ⟨_, rfl⟩
  have hr1 : r < 128 := by omega
  have e1 : (n : Int).tmod 128 = (r : Int) := by rw [Int.tmod_eq_emod_of_nonneg (by omega)]; omega
  have e2 : IntKind.u64.wrap (n : Int) = (n : Int) := by rw [IntKind.wrap_u64]; omega
  clear hr
  have c1 := hh.cell 136
  have c2 := hh.cell 137
  rw [hC_taken] at c1
  rw [hC_made] at c2
  have f1' := hh.frozen 136
  have HB := (hh.setCell 136 (.int .u64 (n : Int))).to (hC_take s t n n)
  have CV := (Chg.refl w [h]).setIn (k := h) (by simp) 136 (.int .u64 (n : Int))
  have H8 : Hid (hC s t n = vC 8 s ++ (yC 128 t ++ #[.int .u64 n, .bool true])) := by show _ = _; unfold hC; rfl
  rw [H8.out] at HB
  go_enter Tryd.func43, Tryd.ntmps43
  by_cases hr0 : r = 0
  · subst hr0
    go_wp2_with fail
    go_loopw [1] (fun b wr => b = .slice (some ⟨ag, ao, asp⟩) 0 0 ∧ Blk wr h (vC 8 s ++ (yC 128 t ++ #[.int .u64 n, .bool true])) 157 ∧ Chg w wr [h]) (fun _ _ => 0)
    case atStart => exact ⟨rfl, HB, CV⟩
    case round =>
      clear HB CV
      obtain ⟨rfl, HB, CV⟩ := hrel
      go_wp2_with (refine copy_y rfl (.tmp 69) (.tmp 70) 22 22 rfl 5 Tryd.underlying22 u8Info h 8 128 128 (some ⟨ag, ao, asp⟩) 0 0 rfl rfl (vC 8 _) 128 t _ 157 HB 0 0 (fun _ => 0) (fun hx => absurd hx (by omega)) rfl (fun hx => absurd hx (by omega)) (by omega) ?_; rw [lay_zero]; intro v3 B3 k3)
      go_end0
      exact ⟨rfl, CV.trans1 k3, by rw [H8.out]; exact B3⟩
  · have hrI : (0 : Int) < (r : Int) := by omega
    have hrJ : (r : Int) ≤ 128 := by omega
    have hrK : (r : Int) < 128 := by omega
    have e4 : IntKind.i64.wrap (r : Int) = (r : Int) := by rw [IntKind.wrap_i64]; omega
    have e5 : IntKind.u64.wrap (r : Int) = (r : Int) := by rw [IntKind.wrap_u64]; omega
    go_wp2_with (refine copy_y rfl (.tmp 36) (.tmp 37) 22 22 rfl 5 Tryd.underlying22 u8Info h (8 + r) (128 - r) (128 - r) (some ⟨ag, ao, asp⟩) 0 0 rfl rfl (vC 8 s) 128 t _ 157 HB 0 0 (fun _ => 0) (fun hx => absurd hx (by omega)) (Nat.zero_min _).symm (fun hx => absurd hx (by omega)) (by omega) ?_; rw [lay_zero]; intro v1 B1 k1)
    refine bodyPost_ret (results_none rfl _ _ _) rfl ?_
    exact ⟨rfl, CV.trans1 k1, by rw [H8.out]; exact B1⟩
theorem Write_e (h N m : Nat) (f g : Nat → Nat) (v : Value) (w : World) (hG : Gl w) (H : Hs w h f N) (h2 : 2 ≤ h) (hv : (Sl w v m g ∧ Off v [h]) ∨ (m = 0 ∧ ∃ a : Addr, v = .slice (some a) 0 0)) (hn : N + m < 18446744073709551616) :
    Calls Tryd.prog 43 #[.pointer (some ⟨h, 0, none⟩), v] w fun e w' => e = .returned (.tuple #[]) ∧ Chg w w' [h] ∧ Hs w' h (cat f N g) (N + m) := by
  rcases hv with ⟨hv, ho⟩ | ⟨rfl, ⟨ag, ao, asp⟩, rfl⟩
  · exact Write_h h N m f g v w hG H h2 hv ho hn
  · obtain ⟨t, B, ht1, ht2⟩ := H
    refine (Write_emp ag ao asp h N _ t w (show U N by unfold U; omega) B).mono ?_
    rintro e w' ⟨rfl, k, B'⟩
    refine ⟨rfl, k, t, ?_, ht1, fun j hj => ?_⟩
    · refine B'.to (congrArg (fun q => hC q t N) (run_congr _ fun i hi => ?_))
      unfold cat
      rw [if_pos (by omega)]
    · rw [ht2 j hj]
      unfold cat
      rw [if_pos (by omega)]
      rfl
end Go.Proofs.YthpfdnkcepfbaaaDoor

/- sha512.Join: parts, one behind the other. -/
namespace Go.Proofs.YthpfdnkcepfbaaaDoor
open Go.RowKit

/-- k slices of bytes, in memory: part i is the value pv i, pn i bytes pf i. -/
def Ps (w : World) (v : Value) (k : Nat) (pv : Nat → Value) (pn : Nat → Nat) (pf : Nat → Nat → Nat) : Prop :=
  (∀ i, i < k → Se w (pv i) (pn i) (pf i)) ∧ ((k = 0 ∧ v = .slice none 0 0) ∨ ∃ g o cap, v = .slice (some ⟨g, o, none⟩) k cap ∧ k ≤ cap ∧ cap ≤ 9223372036854775807 ∧ g < w.heap.size ∧ ∀ i, i < k → w.cell? ⟨g, o + i, none⟩ = some (pv i))
/-- How many bytes the first i parts have; the bytes. -/
def cN (pn : Nat → Nat) : Nat → Nat
  | 0 => 0
  | i + 1 => cN pn i + pn i
def cF (pn : Nat → Nat) (pf : Nat → Nat → Nat) : Nat → (Nat → Nat)
  | 0 => fun _ => 0
  | i + 1 => cat (cF pn pf i) (cN pn i) (pf i)
theorem cN_mono (pn : Nat → Nat) {i k : Nat} (h : i ≤ k) : cN pn i ≤ cN pn k := by
  induction k with
  | zero => obtain rfl : i = 0 := by omega
            exact Nat.le_refl _
  | succ k ih =>
    by_cases e : i = k + 1
    · subst e; exact Nat.le_refl _
    · exact Nat.le_trans (ih (by omega)) (Nat.le_add_right _ _)
theorem Ps.chg {w w' : World} {v : Value} {k : Nat} {pv : Nat → Value} {pn : Nat → Nat} {pf : Nat → Nat → Nat} (h : Ps w v k pv pn pf) (hc : Chg w w' []) : Ps w' v k pv pn pf := by
  refine ⟨fun i hi => (h.1 i hi).chg hc, ?_⟩
  rcases h.2 with h2 | ⟨g, o, cap, e, h3, h4, h5, h6⟩
  · exact Or.inl h2
  · refine Or.inr ⟨g, o, cap, e, h3, h4, Nat.lt_of_lt_of_le h5 hc.size, fun i hi => ?_⟩
    rw [← h6 i hi]
    simp only [World.cell?, hc.block g h5 (by simp)]
set_option maxHeartbeats 4000000 in
set_option maxRecDepth 100000 in
theorem Join_s (v : Value) (k : Nat) (pv : Nat → Value) (pn : Nat → Nat) (pf : Nat → Nat → Nat) (w : World) (hG : Gl w) (hp : Ps w v k pv pn pf) (hm : cN pn k < 18446744073709551616) :
    Calls Tryd.prog 46 #[v] w fun e w' => e = .returned (.agg (yC 64 (sha (cF pn pf k) (cN pn k)))) ∧ Chg w w' [] := by
  have hlen : ∃ p c, v = .slice p k c := by
    rcases hp.2 with ⟨rfl, rfl⟩ | ⟨g, o, cap, rfl, _⟩
    · exact ⟨none, 0, rfl⟩
    · exact ⟨_, _, rfl⟩
  obtain ⟨vp, vc, rfl⟩ := hlen
  have hkb : k ≤ 9223372036854775807 := by
    rcases hp.2 with ⟨rfl, _⟩ | ⟨g, o, cap, _, h1, h2, _⟩ <;> omega
  have hl := hG.lt
  have K0 := (Chg.refl w []).alloc (.cells z64 47)
  have F0 := Blk.new w z64 47
  go_enter Tryd.func46, Tryd.ntmps46
  go_wp2_with fail
  change Calls _ _ _ (w.alloc (.cells z64 47)) _
  refine (begun_s _ (hG.chg K0 (by simp) (by simp))).mono ?_
  rintro e v1 ⟨rfl, k1⟩
  have A := Blk.new v1 Tryd.zeroCells157 157
  replace F0 := F0.chg k1 (by simp)
  replace K0 := K0.trans1 k1
  have y1 := F0.lt
  clear k1
  go_wp2_with (refine wpList_store_row rfl 157 _ _ rfl v1.heap.size _ rfl rfl 157 _ A (by rw [hC_size]; exact HInfo) (by rw [hC_size]; exact zHsize) (hC_one _ _ _) ?_)
  replace A := A.setRow (hC IV (fun _ => 0) 0)
  have K1 : Chg v1 ((v1.alloc (.cells Tryd.zeroCells157 157)).setRow v1.heap.size (hC IV (fun _ => 0) 0)) [] := ((Chg.refl v1 []).alloc _).setRowNew (Nat.le_refl _) _
  replace F0 := F0.chg K1 (by simp)
  have hsz : v1.heap.size < ((v1.alloc (.cells Tryd.zeroCells157 157)).setRow v1.heap.size (hC IV (fun _ => 0) 0)).heap.size := A.lt
  have hk0 := K0.size
  replace K0 := K0.trans1 K1
  generalize (v1.alloc (.cells Tryd.zeroCells157 157)).setRow v1.heap.size (hC IV (fun _ => 0) 0) = v2 at *
  have H00 : Hs v2 v1.heap.size (fun _ => 0) 0 := ⟨fun _ => 0, A, fun _ _ => Nat.zero_lt_succ _, fun j hj => absurd hj (Nat.not_lt_zero _)⟩
  have H0 : Hs v2 v1.heap.size (cF pn pf 0) (cN pn 0) := by unfold cF cN; exact H00
  clear H00
  generalize v1.heap.size = y at *
  clear K1 A
  go_loopw [9] (fun t wr => ∃ i : Nat, i ≤ k ∧ t = .int .i64 (i : Int) ∧ Hs wr y (cF pn pf i) (cN pn i) ∧ Chg v2 wr [y]) (fun t _ => ((k : Int) - intOf t).toNat)
  case atStart => exact ⟨0, by omega, rfl, H0, Chg.refl _ _⟩
  case round =>
    obtain ⟨i, hi, rfl, hs, c0⟩ := hrel
    have KW : Chg w wr [] := K0.trans c0 (fun j hj => by simp at hj; omega)
    by_cases h8 : i < k
    · have hI : (i : Int) < (k : Int) := by omega
      have e1 : IntKind.i64.wrap ((i : Int) + 1) = (i : Int) + 1 := by rw [IntKind.wrap_i64]; omega
      have hpi := hp.1 i h8
      have hp2 := (hp.chg KW).2
      have hsum : cN pn i + pn i < 18446744073709551616 := Nat.lt_of_le_of_lt (cN_mono pn (show i + 1 ≤ k by omega)) hm
      rcases hp2 with ⟨h0, _⟩ | ⟨g, o, cap, he, _, _, _, hcell⟩
      · omega
      · simp only [Value.slice.injEq] at he
        obtain ⟨rfl, _, rfl⟩ := he
        have cx := hcell i h8
        have HW := Write_e y (cN pn i) (pn i) (cF pn pf i) (pf i) (pv i) wr (hG.chg KW (by simp) (by simp)) hs (by omega) (hpi.off KW y (by omega)) hsum
        have HWH : Hid (Calls Tryd.prog 43 #[.pointer (some ⟨y, 0, none⟩), pv i] wr fun e w' => e = .returned (.tuple #[]) ∧ Chg wr w' [y] ∧ Hs w' y (cat (cF pn pf i) (cN pn i) (pf i)) (cN pn i + pn i)) := HW
        clear HW
        go_wp2_with fail
        refine HWH.out.mono ?_
        rintro e v3 ⟨rfl, k3, H3⟩
        go_wp2_with fail
        exact ⟨⟨i + 1, by omega, by go_num, H3, c0.trans1 k3⟩, by simp [intOf]; omega⟩
    · have h9 : i = k := by omega
      subst h9
      have hI : ¬ (i : Int) < (i : Int) := by omega
      replace F0 := F0.chg c0 (by simp; omega)
      go_wp2_with fail
      refine (Sum_h y (cN pn i) (cF pn pf i) wr (hG.chg KW (by simp) (by simp)) hs hm).mono ?_
      rintro e v4 ⟨rfl, k4⟩
      replace F0 := F0.chg k4 (by simp)
      replace KW := KW.trans1 k4
      go_wp2_with (refine wpList_store_row rfl 47 _ _ rfl w.heap.size _ rfl rfl 47 _ F0 (by rw [yC_size]; exact DInfo) (by rw [yC_size]; rfl) (yC_one _ _) ?_)
      exact bodyPost_ret (results_cell_row Tryd.results46 _ _ w.heap.size 47 (yC 64 (sha (cF pn pf i) (cN pn i))) (0, 0) _ rfl (F0.setRow _) Tryd.underlying47 rfl (by rw [yC_size]; exact DInfo)) rfl ⟨rfl, KW.setRowNew (Nat.le_refl _) _⟩
end Go.Proofs.YthpfdnkcepfbaaaDoor

/- == on digests; Hasher.Len. -/
namespace Go.Proofs.YthpfdnkcepfbaaaDoor
open Go.RowKit

theorem u8InfoE : ∃ i, Tryd.prog.info? 5 = some i := Option.isSome_iff_exists.1 (by kernel_rfl)
theorem u8CellsE : Tryd.prog.cellsOf 5 = 1 := by kernel_rfl
/-- Are 64 bytes the same? -/
def eqy (f g : Nat → Nat) : Bool := (List.range 64).all fun i => ((f i : Nat) : Int) == ((g i : Nat) : Int)
theorem eqy_self (f : Nat → Nat) : eqy f f = true := by simp [eqy]
end Go.Proofs.YthpfdnkcepfbaaaDoor
