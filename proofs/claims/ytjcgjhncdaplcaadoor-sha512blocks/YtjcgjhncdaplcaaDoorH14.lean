/- sha512.Join: parts, one behind the other. -/
import Derived.Test.YtjcgjhncdaplcaaDoorH13
import Derived.Test.YtjcgjhncdaplcaaDoorWrE
set_option linter.unusedVariables false
set_option linter.unusedSimpArgs false
set_option linter.unnecessarySimpa false
namespace Go.Proofs.YtjcgjhncdaplcaaDoor
open Go.RowKit

/-- k slices of bytes, in memory: part i is the value pv i, pn i bytes pf i. -/
def Ps (w : World) (v : Value) (k : Nat) (pv : Nat → Value) (pn : Nat → Nat) (pf : Nat → Nat → Nat) : Prop :=
  (∀ i, i < k → Se w (pv i) (pn i) (pf i)) ∧ ((k = 0 ∧ v = .slice none 0 0) ∨ ∃ g o cap, v = .slice (some ⟨g, o, none⟩) k cap ∧ k ≤ cap ∧ cap ≤ 9223372036854775807 ∧ g < w.heap.size ∧ ∀ i, i < k → w.cell? ⟨g, o + i, none⟩ = some (pv i))
/-- How many bytes the first i parts have; the bytes. -/
def cN (pn : Nat → Nat) : Nat → Nat
  | 0 => 0
  | i + 1 => cN pn i + pn i
def cF (pn : Nat → Nat) (pf : Nat → Nat → Nat) : Nat → (Nat → Nat)
  | 0 => fun _ => 0
  | i + 1 => cat (cF pn pf i) (cN pn i) (pf i)
theorem cN_mono (pn : Nat → Nat) {i k : Nat} (h : i ≤ k) : cN pn i ≤ cN pn k := by
  induction k with
  | zero => obtain rfl : i = 0 := by omega
            exact Nat.le_refl _
  | succ k ih =>
    by_cases e : i = k + 1
    · subst e; exact Nat.le_refl _
    · exact Nat.le_trans (ih (by omega)) (Nat.le_add_right _ _)
theorem Ps.chg {w w' : World} {v : Value} {k : Nat} {pv : Nat → Value} {pn : Nat → Nat} {pf : Nat → Nat → Nat} (h : Ps w v k pv pn pf) (hc : Chg w w' []) : Ps w' v k pv pn pf := by
  refine ⟨fun i hi => (h.1 i hi).chg hc, ?_⟩
  rcases h.2 with h2 | ⟨g, o, cap, e, h3, h4, h5, h6⟩
  · exact Or.inl h2
  · refine Or.inr ⟨g, o, cap, e, h3, h4, Nat.lt_of_lt_of_le h5 hc.size, fun i hi => ?_⟩
    rw [← h6 i hi]
    simp only [World.cell?, hc.block g h5 (by simp)]
set_option maxHeartbeats 4000000 in
set_option maxRecDepth 100000 in
theorem Join_s (v : Value) (k : Nat) (pv : Nat → Value) (pn : Nat → Nat) (pf : Nat → Nat → Nat) (w : World) (hG : Gl w) (hp : Ps w v k pv pn pf) (hm : cN pn k < 18446744073709551616) :
    Calls Tryd.prog 12 #[v] w fun e w' => e = .returned (.agg (yC 64 (sha (cF pn pf k) (cN pn k)))) ∧ Chg w w' [] := by
  have hlen : ∃ p c, v = .slice p k c := by
    rcases hp.2 with ⟨rfl, rfl⟩ | ⟨g, o, cap, rfl, _⟩
    · exact ⟨none, 0, rfl⟩
    · exact ⟨_, _, rfl⟩
  obtain ⟨vp, vc, rfl⟩ := hlen
  have hkb : k ≤ 9223372036854775807 := by
    rcases hp.2 with ⟨rfl, _⟩ | ⟨g, o, cap, _, h1, h2, _⟩ <;> omega
  have hl := hG.lt
  have K0 := (Chg.refl w []).alloc (.cells z64 42)
  have F0 := Blk.new w z64 42
  go_enter Tryd.func12, Tryd.ntmps12
  go_wp2_with fail
  change Calls _ _ _ (w.alloc (.cells z64 42)) _
  refine (begun_s _ (hG.chg K0 (by simp) (by simp))).mono ?_
  rintro e v1 ⟨rfl, k1⟩
  have A := Blk.new v1 Tryd.zeroCells96 96
  replace F0 := F0.chg k1 (by simp)
  replace K0 := K0.trans1 k1
  have y1 := F0.lt
  clear k1
  go_wp2_with (refine wpList_store_row rfl 96 _ _ rfl v1.heap.size _ rfl rfl 96 _ A (by rw [hC_size]; exact HInfo) (by rw [hC_size]; exact zHsize) (hC_one _ _ _) ?_)
  replace A := A.setRow (hC IV (fun _ => 0) 0)
  have K1 : Chg v1 ((v1.alloc (.cells Tryd.zeroCells96 96)).setRow v1.heap.size (hC IV (fun _ => 0) 0)) [] := ((Chg.refl v1 []).alloc _).setRowNew (Nat.le_refl _) _
  replace F0 := F0.chg K1 (by simp)
  have hsz : v1.heap.size < ((v1.alloc (.cells Tryd.zeroCells96 96)).setRow v1.heap.size (hC IV (fun _ => 0) 0)).heap.size := A.lt
  have hk0 := K0.size
  replace K0 := K0.trans1 K1
  generalize (v1.alloc (.cells Tryd.zeroCells96 96)).setRow v1.heap.size (hC IV (fun _ => 0) 0) = v2 at *
  have H00 : Hs v2 v1.heap.size (fun _ => 0) 0 := ⟨fun _ => 0, A, fun _ _ => Nat.zero_lt_succ _, fun j hj => absurd hj (Nat.not_lt_zero _)⟩
  have H0 : Hs v2 v1.heap.size (cF pn pf 0) (cN pn 0) := by unfold cF cN; exact H00
  clear H00
  generalize v1.heap.size = y at *
  clear K1 A
  go_loopw [9] (fun t wr => ∃ i : Nat, i ≤ k ∧ t = .int .i64 (i : Int) ∧ Hs wr y (cF pn pf i) (cN pn i) ∧ Chg v2 wr [y]) (fun t _ => ((k : Int) - intOf t).toNat)
  case atStart => exact ⟨0, by omega, rfl, H0, Chg.refl _ _⟩
  case round =>
    obtain ⟨i, hi, rfl, hs, c0⟩ := hrel
    have KW : Chg w wr [] := K0.trans c0 (fun j hj => by simp at hj; omega)
    by_cases h8 : i < k
    · have hI : (i : Int) < (k : Int) := by omega
      have e1 : IntKind.i64.wrap ((i : Int) + 1) = (i : Int) + 1 := by rw [IntKind.wrap_i64]; omega
      have hpi := hp.1 i h8
      have hp2 := (hp.chg KW).2
      have hsum : cN pn i + pn i < 18446744073709551616 := Nat.lt_of_le_of_lt (cN_mono pn (show i + 1 ≤ k by omega)) hm
      rcases hp2 with ⟨h0, _⟩ | ⟨g, o, cap, he, _, _, _, hcell⟩
      · omega
      · simp only [Value.slice.injEq] at he
        obtain ⟨rfl, _, rfl⟩ := he
        have cx := hcell i h8
        have HW := Write_e y (cN pn i) (pn i) (cF pn pf i) (pf i) (pv i) wr (hG.chg KW (by simp) (by simp)) hs (by omega) (hpi.off KW y (by omega)) hsum
        have HWH : Hid (Calls Tryd.prog 28 #[.pointer (some ⟨y, 0, none⟩), pv i] wr fun e w' => e = .returned (.tuple #[]) ∧ Chg wr w' [y] ∧ Hs w' y (cat (cF pn pf i) (cN pn i) (pf i)) (cN pn i + pn i)) := HW
        clear HW
        go_wp2_with fail
        refine HWH.out.mono ?_
        rintro e v3 ⟨rfl, k3, H3⟩
        go_wp2_with fail
        exact ⟨⟨i + 1, by omega, by go_num, H3, c0.trans1 k3⟩, by simp [intOf]; omega⟩
    · have h9 : i = k := by omega
      subst h9
      have hI : ¬ (i : Int) < (i : Int) := by omega
      replace F0 := F0.chg c0 (by simp; omega)
      go_wp2_with fail
      refine (Sum_h y (cN pn i) (cF pn pf i) wr (hG.chg KW (by simp) (by simp)) hs hm).mono ?_
      rintro e v4 ⟨rfl, k4⟩
      replace F0 := F0.chg k4 (by simp)
      replace KW := KW.trans1 k4
      go_wp2_with (refine wpList_store_row rfl 42 _ _ rfl w.heap.size _ rfl rfl 42 _ F0 (by rw [yC_size]; exact DInfo) (by rw [yC_size]; rfl) (yC_one _ _) ?_)
      exact bodyPost_ret (results_cell_row Tryd.results12 _ _ w.heap.size 42 (yC 64 (sha (cF pn pf i) (cN pn i))) (0, 0) _ rfl (F0.setRow _) Tryd.underlying42 rfl (by rw [yC_size]; exact DInfo)) rfl ⟨rfl, KW.setRowNew (Nat.le_refl _) _⟩
end Go.Proofs.YtjcgjhncdaplcaaDoor
