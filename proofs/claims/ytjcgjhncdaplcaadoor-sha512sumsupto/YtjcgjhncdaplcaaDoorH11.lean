/- append of bytes, slices.Clone, Pad, Compress. -/
import Derived.Test.YtjcgjhncdaplcaaDoorH10
import Derived.Lib.BufferMore
set_option linter.unusedVariables false
set_option linter.unusedSimpArgs false
set_option linter.unnecessarySimpa false
namespace Go.Proofs.YtjcgjhncdaplcaaDoor
open Go.RowKit

theorem results_cell_tmp {P : Program} {fn : Func} {p q : Tmp} {ty : TypeId} (h : fn.results = #[.cell p ty, .tmp q]) (tmps : Array Value) (w : World) (g : Nat) (t : TypeId) (cs : Array Value) (d : TypeDesc) (v : Value)
    (hp : tmps.getD p undef = .pointer (some ⟨g, 0, none⟩)) (hq : tmps.getD q undef = v) (hg : w.heap[g]? = some (.cells cs t (0, 0)))
    (hu : P.underlying ty = some d) (hd : (match d with | .struct _ | .array _ _ => true | _ => false) = true) (hi : (P.info? ty).map (·.size) = some cs.size) :
    (results fn tmps).run P w = .ok (.tuple #[.agg cs, v]) w := by
  have hp' : tmps[p]?.getD undef = .pointer (some ⟨g, 0, none⟩) := by simpa using hp
  have hq' : tmps[q]?.getD undef = v := by simpa using hq
  simp [results, h, hp', hq', asAddr, run_loadVar_row w g t ty cs (0, 0) d hg hu hd hi]
/-- Eight words 0. -/
def z8 : Array Value := #[.int .u64 0, .int .u64 0, .int .u64 0, .int .u64 0, .int .u64 0, .int .u64 0, .int .u64 0, .int .u64 0]
attribute [local irreducible] hC vC yC IV KK sha cmp
set_option maxHeartbeats 4000000 in
set_option maxRecDepth 100000 in
theorem Compress_s (g o c : Nat) (s b : Nat → Nat) (w : World) (hG : Gl w) (hs : ∀ i, i < 8 → U (s i)) (hc : 128 ≤ c) (hc2 : c ≤ 9223372036854775807) (hb : Bs w g o 128 b) :
    Calls Tryd.prog 18 #[.agg (vC 8 s), .slice (some ⟨g, o, none⟩) 128 c] w fun e w' => e = .returned (.tuple #[.agg (vC 8 (cmp KK s b)), .int .i64 0]) ∧ Chg w w' [] := by
  have hl := hG.lt
  have hgl := hb.lt
  have K0 := ((Chg.refl w []).alloc (.cells (vC 8 s) 53)).alloc (.cells z8 53)
  have F0 : Blk ((w.alloc (.cells (vC 8 s) 53)).alloc (.cells z8 53)) w.heap.size (vC 8 s ++ #[]) 53 := ((Blk.new w (vC 8 s) 53).alloc (.cells z8 53)).to (by simp)
  have F1 : Blk ((w.alloc (.cells (vC 8 s) 53)).alloc (.cells z8 53)) (w.heap.size + 1) z8 53 := by have q := Blk.new (w.alloc (.cells (vC 8 s) 53)) z8 53; simpa using q
  go_enter Tryd.func18, Tryd.ntmps18
  go_wp2_with fail
  refine (compress_s w.heap.size g o c KK s b #[] 53 _ hc hc2 ((hG.chg K0 (by simp) (by simp)).kc) hs (hb.chg K0 (by simp)) F0 (by omega)).mono ?_
  rintro e v1 ⟨rfl, B1, k1⟩
  rw [Array.append_empty] at B1
  replace F1 := F1.chg k1 (by simp)
  replace K0 := K0.trans k1 (by simp)
  go_wp2_with (first | (refine wpList_load_row rfl 53 _ rfl w.heap.size rfl 53 _ (0, 0) _ B1 Tryd.underlying53 rfl (by rw [vC_size]; exact S8Info) ?_) | (refine wpList_store_row rfl 53 _ _ rfl (w.heap.size + 1) _ rfl rfl 53 _ F1 (by rw [vC_size]; exact S8Info) (by rw [vC_size]; rfl) (vC_one _ _) ?_))
  exact bodyPost_ret (results_cell_tmp Tryd.results18 _ _ (w.heap.size + 1) 53 (vC 8 (cmp KK s b)) _ _ rfl rfl (F1.setRow _) Tryd.underlying53 rfl (by rw [vC_size]; exact S8Info)) rfl ⟨rfl, K0.setRowNew (by omega) _⟩
set_option maxHeartbeats 4000000 in
set_option maxRecDepth 100000 in
theorem Clone_s (g o n c : Nat) (f : Nat → Nat) (w : World) (hn : n ≤ 211106232532992) (hnc : n ≤ c) (hc : c ≤ 9223372036854775807) (hb : Bs w g o n f) :
    Calls Tryd.prog 57 #[.slice (some ⟨g, o, none⟩) n c] w fun e w' => ∃ v, e = .returned v ∧ Own w' w.heap.size v n f ∧ Chg w w' [] := by
  have O0 : Own (w.alloc (.cells #[] 5)) w.heap.size (.slice (some ⟨w.heap.size, 0, none⟩) 0 0) 0 f := ⟨World.ownsRow_made w #[] 0 (Nat.le_refl _) (by simp [maxLen]) (by simp), fun i hi => by omega⟩
  have K0 := (Chg.refl w []).alloc (.cells #[] 5)
  have S0 : Sl (w.alloc (.cells #[] 5)) (.slice (some ⟨g, o, none⟩) n c) n f := Or.inr ⟨g, o, c, rfl, hnc, hc, hb.chg K0 (by simp)⟩
  have hq : ∀ W, (binOp .eql 22 (.slice (some ⟨g, o, none⟩) n c) (.slice none 0 0)).run Tryd.prog W = .ok (.bool false) W := fun W => Lib.run_eql_slice_some_nil W _ _ _ Tryd.underlying22
  go_enter Tryd.func57, Tryd.ntmps57
  go_wp2_with (refine append_y rfl (.tmp 5) (.tmp 6) rfl w.heap.size (.slice (some ⟨w.heap.size, 0, none⟩) 0 0) (.slice (some ⟨g, o, none⟩) n c) 0 n f f rfl rfl O0 S0 (by omega) (by simp) ?_; intro v1 w1 O1 k1)
  rw [Nat.zero_add] at O1
  have e : cat f 0 f = f := cat_zero f f
  rw [e] at O1
  go_wp2_with fail
  go_ret
  exact ⟨v1, rfl, O1, K0.trans k1 (by simp [ob, Value.ownBlock])⟩
set_option maxHeartbeats 4000000 in
set_option maxRecDepth 100000 in
theorem Pad_s (n : Nat) (w : World) (hn : n < 2305843009213693952) : Calls Tryd.prog 20 #[.int .u64 n] w fun e w' => ∃ v, e = .returned (.tuple #[v, .int .i64 0]) ∧ Own w' w.heap.size v (17 + zr n) (pdf n) ∧ Chg w w' [] := by
  have F0 : Blk (w.alloc (.cells Tryd.zeroCells129 129)) w.heap.size (yC 144 fun _ => 0) 129 := (Blk.new w _ _).to zR
  have K0 := (Chg.refl w []).alloc (.cells Tryd.zeroCells129 129)
  have hI : ¬ (2305843009213693952 : Int) ≤ (n : Int) := by omega
  have hz : zr n < 128 := Nat.mod_lt _ (by decide)
  obtain ⟨m, hm⟩ : ∃ m, 17 + zr n = m := ⟨_, rfl⟩
  have hm1 : m ≤ 144 := by omega
  have hm2 : (m : Int) ≤ 144 := by omega
  have HF := fill_s w.heap.size n (w.alloc (.cells Tryd.zeroCells129 129)) (show U n by unfold U; omega) F0
  rw [hm] at HF ⊢
  have e4 : IntKind.i64.wrap (m : Int) = (m : Int) := by rw [IntKind.wrap_i64]; omega
  clear hn hz hm
  have HFH : Hid (Calls Tryd.prog 58 #[.pointer (some ⟨w.heap.size, 0, none⟩), .int .u64 n] (w.alloc (.cells Tryd.zeroCells129 129)) fun e w' => e = .returned (.int .i64 (m : Int)) ∧ Blk w' w.heap.size (yC 144 (pdf n)) 129 ∧ Chg (w.alloc (.cells Tryd.zeroCells129 129)) w' [w.heap.size]) := HF
  clear HF F0
  go_enter Tryd.func20, Tryd.ntmps20
  go_wp2_with fail
  refine HFH.out.mono ?_
  rintro e v1 ⟨rfl, R1, k1⟩
  replace K0 := K0.trans k1 (by simp)
  have BR : Bs v1 w.heap.size 0 m (pdf n) := ⟨R1.lt, fun i _ => pdf_lt n i, fun i hi => by rw [Nat.zero_add, R1.cell, yC_get _ _ _ (by omega)]⟩
  go_wp2_with fail
  refine (Clone_s w.heap.size 0 m 144 (pdf n) v1 (by omega) hm1 (by omega) BR).mono ?_
  rintro e v2 ⟨v, rfl, O2, k2⟩
  go_wp2_with fail
  go_ret2
  refine ⟨v, rfl, ⟨?_, O2.2⟩, K0.trans1 k2⟩
  obtain ⟨a1, a2⟩ := O2.1
  refine ⟨a1, ?_⟩
  rcases a2 with a2 | ⟨g, cap, cur, e1, e2, e3⟩
  · exact Or.inl a2
  · exact Or.inr ⟨g, cap, cur, e1, Nat.le_trans K0.size e2, e3⟩
end Go.Proofs.YtjcgjhncdaplcaaDoor
