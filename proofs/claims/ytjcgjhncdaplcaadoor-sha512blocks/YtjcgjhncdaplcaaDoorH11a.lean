/- append of bytes, slices.Clone, Pad, Compress. -/
import Derived.Test.YtjcgjhncdaplcaaDoorH10
import Derived.Lib.BufferMore
set_option linter.unusedVariables false
set_option linter.unusedSimpArgs false
set_option linter.unnecessarySimpa false
namespace Go.Proofs.YtjcgjhncdaplcaaDoor
open Go.RowKit

theorem results_cell_tmp {P : Program} {fn : Func} {p q : Tmp} {ty : TypeId} (h : fn.results = #[.cell p ty, .tmp q]) (tmps : Array Value) (w : World) (g : Nat) (t : TypeId) (cs : Array Value) (d : TypeDesc) (v : Value)
    (hp : tmps.getD p undef = .pointer (some ⟨g, 0, none⟩)) (hq : tmps.getD q undef = v) (hg : w.heap[g]? = some (.cells cs t (0, 0)))
    (hu : P.underlying ty = some d) (hd : (match d with | .struct _ | .array _ _ => true | _ => false) = true) (hi : (P.info? ty).map (·.size) = some cs.size) :
    (results fn tmps).run P w = .ok (.tuple #[.agg cs, v]) w := by
  have hp' : tmps[p]?.getD undef = .pointer (some ⟨g, 0, none⟩) := by simpa using hp
  have hq' : tmps[q]?.getD undef = v := by simpa using hq
  simp [results, h, hp', hq', asAddr, run_loadVar_row w g t ty cs (0, 0) d hg hu hd hi]
/-- Eight words 0. -/
def z8 : Array Value := #[.int .u64 0, .int .u64 0, .int .u64 0, .int .u64 0, .int .u64 0, .int .u64 0, .int .u64 0, .int .u64 0]
set_option maxHeartbeats 4000000 in
set_option maxRecDepth 100000 in
theorem Clone_s (g o n c : Nat) (f : Nat → Nat) (w : World) (hn : n ≤ 211106232532992) (hnc : n ≤ c) (hc : c ≤ 9223372036854775807) (hb : Bs w g o n f) :
    Calls Tryd.prog 57 #[.slice (some ⟨g, o, none⟩) n c] w fun e w' => ∃ v, e = .returned v ∧ Own w' w.heap.size v n f ∧ Chg w w' [] := by
  have O0 : Own (w.alloc (.cells #[] 5)) w.heap.size (.slice (some ⟨w.heap.size, 0, none⟩) 0 0) 0 f := ⟨World.ownsRow_made w #[] 0 (Nat.le_refl _) (by simp [maxLen]) (by simp), fun i hi => by omega⟩
  have K0 := (Chg.refl w []).alloc (.cells #[] 5)
  have S0 : Sl (w.alloc (.cells #[] 5)) (.slice (some ⟨g, o, none⟩) n c) n f := Or.inr ⟨g, o, c, rfl, hnc, hc, hb.chg K0 (by simp)⟩
  have hq : ∀ W, (binOp .eql 22 (.slice (some ⟨g, o, none⟩) n c) (.slice none 0 0)).run Tryd.prog W = .ok (.bool false) W := fun W => Lib.run_eql_slice_some_nil W _ _ _ Tryd.underlying22
  go_enter Tryd.func57, Tryd.ntmps57
  go_wp2_with (refine append_y rfl (.tmp 5) (.tmp 6) rfl w.heap.size (.slice (some ⟨w.heap.size, 0, none⟩) 0 0) (.slice (some ⟨g, o, none⟩) n c) 0 n f f rfl rfl O0 S0 (by omega) (by simp) ?_; intro v1 w1 O1 k1)
  rw [Nat.zero_add] at O1
  have e : cat f 0 f = f := cat_zero f f
  rw [e] at O1
  go_wp2_with fail
  go_ret
  exact ⟨v1, rfl, O1, K0.trans k1 (by simp [ob, Value.ownBlock])⟩
set_option maxHeartbeats 4000000 in
set_option maxRecDepth 100000 in
theorem Pad_s (n : Nat) (w : World) (hn : n < 2305843009213693952) : Calls Tryd.prog 20 #[.int .u64 n] w fun e w' => ∃ v, e = .returned (.tuple #[v, .int .i64 0]) ∧ Own w' w.heap.size v (17 + zr n) (pdf n) ∧ Chg w w' [] := by
  have F0 : Blk (w.alloc (.cells Tryd.zeroCells129 129)) w.heap.size (yC 144 fun _ => 0) 129 := (Blk.new w _ _).to zR
  have K0 := (Chg.refl w []).alloc (.cells Tryd.zeroCells129 129)
  have hI : ¬ (2305843009213693952 : Int) ≤ (n : Int) := by omega
  have hz : zr n < 128 := Nat.mod_lt _ (by decide)
  obtain ⟨m, hm⟩ : ∃ m, 17 + zr n = m := ⟨_, rfl⟩
  have hm1 : m ≤ 144 := by omega
  have hm2 : (m : Int) ≤ 144 := by omega
  have HF := fill_s w.heap.size n (w.alloc (.cells Tryd.zeroCells129 129)) (show U n by unfold U; omega) F0
  rw [hm] at HF ⊢
  have e4 : IntKind.i64.wrap (m : Int) = (m : Int) := by rw [IntKind.wrap_i64]; omega
  clear hn hz hm
  have HFH : Hid (Calls Tryd.prog 58 #[.pointer (some ⟨w.heap.size, 0, none⟩), .int .u64 n] (w.alloc (.cells Tryd.zeroCells129 129)) fun e w' => e = .returned (.int .i64 (m : Int)) ∧ Blk w' w.heap.size (yC 144 (pdf n)) 129 ∧ Chg (w.alloc (.cells Tryd.zeroCells129 129)) w' [w.heap.size]) := HF
  clear HF F0
  go_enter Tryd.func20, Tryd.ntmps20
  go_wp2_with fail
  refine HFH.out.mono ?_
  rintro e v1 ⟨rfl, R1, k1⟩
  replace K0 := K0.trans k1 (by simp)
  have BR : Bs v1 w.heap.size 0 m (pdf n) := ⟨R1.lt, fun i _ => pdf_lt n i, fun i hi => by rw [Nat.zero_add, R1.cell, yC_get _ _ _ (by omega)]⟩
  go_wp2_with fail
  refine (Clone_s w.heap.size 0 m 144 (pdf n) v1 (by omega) hm1 (by omega) BR).mono ?_
  rintro e v2 ⟨v, rfl, O2, k2⟩
  go_wp2_with fail
  go_ret2
  refine ⟨v, rfl, ⟨?_, O2.2⟩, K0.trans1 k2⟩
  obtain ⟨a1, a2⟩ := O2.1
  refine ⟨a1, ?_⟩
  rcases a2 with a2 | ⟨g, cap, cur, e1, e2, e3⟩
  · exact Or.inl a2
  · exact Or.inr ⟨g, cap, cur, e1, Nat.le_trans K0.size e2, e3⟩
end Go.Proofs.YtjcgjhncdaplcaaDoor
