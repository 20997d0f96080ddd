/- drbg: freshPool, New, Reseed, Left. -/
import Derived.Test.YthpfdnkcepfbaaaDoorDr5
set_option linter.unusedVariables false
set_option linter.unusedSimpArgs false
set_option linter.unnecessarySimpa false
namespace Go.Proofs.YthpfdnkcepfbaaaDoor
open Go.RowKit

def pC (K V : Nat → Nat) : Array Value := yC 64 K ++ yC 64 V
theorem pC_size (K V : Nat → Nat) : (pC K V).size = 128 := by unfold pC; simp [yC_size]
theorem poolInfo : (Tryd.prog.info? 138).map (·.size) = some 128 := by kernel_rfl
theorem zeroPool : (Tryd.prog.info? 138).bind (·.zero) = some (.agg (pC (fun _ => 0) (fun _ => 0))) := by kernel_rfl
theorem pC_one (K V : Nat → Nat) : (pC K V).all (·.oneCell') = true := by unfold pC; rw [Array.all_append, yC_one, yC_one]; rfl
def o1 (i : Nat) : Nat → Nat := fun j => if j < i then 1 else 0
theorem pC_set (K V : Nat → Nat) (i v : Nat) (h : i < 64) : (pC K V).setIfInBounds (64 + i) (.int .u8 v) = pC K (up V i v) := by
  unfold pC
  apply Array.ext_getElem?
  intro j
  rw [Array.getElem?_setIfInBounds]
  by_cases hj : j < 64
  · rw [if_neg (by omega), Array.getElem?_append_left (by rw [yC_size]; exact hj), Array.getElem?_append_left (by rw [yC_size]; exact hj)]
  · rw [Array.getElem?_append_right (by rw [yC_size]; omega), Array.getElem?_append_right (by rw [yC_size]; omega), yC_size, ← yC_set, Array.getElem?_setIfInBounds]
    by_cases he : 64 + i = j
    · subst he
      rw [if_pos rfl, if_pos (show 64 + i < (yC 64 K ++ yC 64 V).size by rw [Array.size_append, yC_size, yC_size]; omega), if_pos (show i = 64 + i - 64 by omega), if_pos (show i < (yC 64 V).size by rw [yC_size]; exact h)]
    · rw [if_neg he, if_neg (by omega)]
theorem pC_hi (K V : Nat → Nat) (i : Nat) (h : i < 64) : (pC K V)[64 + i]? = some (.int .u8 (V i)) := by
  unfold pC
  rw [Array.getElem?_append_right (by rw [yC_size]; omega), yC_size, show 64 + i - 64 = i by omega, yC_get _ _ _ h]
theorem o1_up (i : Nat) : up (o1 i) i 1 = o1 (i + 1) := by
  funext j
  unfold up o1
  by_cases h : j = i
  · subst h; rw [if_pos rfl, if_pos (by omega)]
  · rw [if_neg h]
    by_cases h2 : j < i
    · rw [if_pos h2, if_pos (by omega)]
    · rw [if_neg h2, if_neg (by omega)]
theorem o1_0 : o1 0 = fun _ => 0 := by funext j; unfold o1; rw [if_neg (by omega)]
theorem o1_end (K : Nat → Nat) : pC K (o1 64) = pC K (fun _ => 1) := by
  have e : yC 64 (o1 64) = yC 64 (fun _ => 1) := yC_eq fun i hi => by unfold o1; rw [if_pos hi]
  unfold pC
  rw [e]
set_option maxHeartbeats 4000000 in
set_option maxRecDepth 100000 in
theorem freshPool_s (w : World) : Calls Tryd.prog 62 #[] w fun e w' => e = .returned (.agg (pC (fun _ => 0) (fun _ => 1))) ∧ Chg w w' [] := by
  go_enter Tryd.func62, Tryd.ntmps62
  go_wp2_with (first
    | (have _h := BR; with_reducible refine alloc_w rfl 138 rfl (.agg (pC (fun _ => 0) (fun _ => 0))) zeroPool (pC (fun _ => 0) (fun _ => 0)) rfl ?_; intro b w2 hb B k2)
    | (with_reducible refine alloc_w rfl 138 rfl (.agg (pC (fun _ => 0) (fun _ => 0))) zeroPool (pC (fun _ => 0) (fun _ => 0)) rfl ?_; intro rb w1 hrb BR k1))
  have K2 := k1.trans1 k2
  have HN : Hid (rb < b ∧ w.heap.size ≤ rb ∧ w.heap.size ≤ b) := ⟨Nat.lt_of_lt_of_le BR.lt hb, hrb, Nat.le_trans k1.size hb⟩
  replace BR := BR.chg k2 (by simp)
  clear k1 k2 hb hrb
  go_loopw [3] (fun t wr => ∃ i : Nat, i ≤ 64 ∧ t = .int .i64 (i : Int) ∧ Blk wr b (pC (fun _ => 0) (o1 i)) 138 ∧ Blk wr rb (pC (fun _ => 0) (fun _ => 0)) 138 ∧ Chg w wr []) (fun t _ => (64 - intOf t).toNat)
  case atStart => exact ⟨0, by omega, rfl, by rw [o1_0]; exact B, BR, K2⟩
  case round =>
    clear B BR K2
    obtain ⟨i, hi, rfl, A, BR, c0⟩ := hrel
    by_cases h8 : i < 64
    · have hI : (i : Int) < 64 := by omega
      have e1 : IntKind.i64.wrap ((i : Int) + 1) = (i : Int) + 1 := by rw [IntKind.wrap_i64]; omega
      have cx := (A.cell (64 + i)).trans (pC_hi _ _ i h8)
      have fx := A.frozen (64 + i)
      have A2 := (A.setCell (64 + i) (.int .u8 ((1 : Nat) : Int))).to ((pC_set _ _ i 1 h8).trans (congrArg (pC (fun _ => 0)) (o1_up i)))
      have C2 : Chg w (wr.setCell ⟨b, 64 + i, none⟩ (.int .u8 ((1 : Nat) : Int))) [] := c0.setNew HN.out.2.2 (64 + i) _
      have BR2 := BR.setOther (show rb ≠ b by have := HN.out; omega) (64 + i) (.int .u8 ((1 : Nat) : Int))
      go_wp2_with fail
      exact ⟨⟨i + 1, by omega, by go_num, A2, BR2, C2⟩, by simp [intOf]; omega⟩
    · obtain rfl : i = 64 := by omega
      rw [o1_end] at A
      go_wp2_with (first
        | (refine store_w BR rfl 138 _ _ (pC (fun _ => 0) (fun _ => 1)) rfl rfl rfl (by rw [pC_size]; exact poolInfo) (by rw [pC_size, pC_size]) (pC_one _ _) ?_; intro w7 BR7 k7)
        | (with_reducible refine load_b A 138 (.tmp 1) Tryd.underlying138 ?_ ?_ ?_ ?_ ?_ ?_
           · rfl
           · rfl
           · rfl
           · rfl
           · (rw [pC_size]; exact poolInfo)))
      exact bodyPost_ret (results_cell_row Tryd.results62 _ _ rb 138 (pC (fun _ => 0) (fun _ => 1)) (0, 0) _ rfl BR7 Tryd.underlying138 rfl (by rw [pC_size]; exact poolInfo)) rfl ⟨rfl, c0.new k7 HN.out.2.1⟩
theorem Pq.mk1 {g : Nat} {w : World} {lb : Nat} {v0 : Value} {n0 : Nat} {f0 : Nat → Nat} {T : TypeId} (B : Blk w lb #[v0] T) (h0 : SeO g w v0 n0 f0) (hg : ¬ lb = g) : Pq g w (.slice (some ⟨lb, 0, none⟩) 1 1) 1 (fun _ => v0) (fun _ => n0) (fun _ => f0) := by
  refine ⟨fun i hi => h0, lb, 0, 1, rfl, Nat.le_refl _, by omega, B.lt, hg, fun i hi => ?_⟩
  obtain rfl : i = 0 := by omega
  rw [B.cell]; rfl
theorem Pq.mk2 {g : Nat} {w : World} {lb : Nat} {v0 v1 : Value} {n0 n1 : Nat} {f0 f1 : Nat → Nat} {T : TypeId} (B : Blk w lb #[v0, v1] T) (h0 : SeO g w v0 n0 f0) (h1 : SeO g w v1 n1 f1) (hg : ¬ lb = g) : Pq g w (.slice (some ⟨lb, 0, none⟩) 2 2) 2 (p2 v0 v1) (p2 n0 n1) (p2 f0 f1) := by
  refine ⟨fun i hi => ?_, lb, 0, 2, rfl, Nat.le_refl _, by omega, B.lt, hg, fun i hi => ?_⟩
  · rcases (show i = 0 ∨ i = 1 by omega) with rfl | rfl
    · exact h0
    · exact h1
  · rcases (show i = 0 ∨ i = 1 by omega) with rfl | rfl <;> (rw [B.cell]; rfl)
theorem Pq.mk3 {g : Nat} {w : World} {lb : Nat} {v0 v1 v2 : Value} {n0 n1 n2 : Nat} {f0 f1 f2 : Nat → Nat} {T : TypeId} (B : Blk w lb #[v0, v1, v2] T) (h0 : SeO g w v0 n0 f0) (h1 : SeO g w v1 n1 f1) (h2 : SeO g w v2 n2 f2) (hg : ¬ lb = g) : Pq g w (.slice (some ⟨lb, 0, none⟩) 3 3) 3 (p3 v0 v1 v2) (p3 n0 n1 n2) (p3 f0 f1 f2) := by
  refine ⟨fun i hi => ?_, lb, 0, 3, rfl, Nat.le_refl _, by omega, B.lt, hg, fun i hi => ?_⟩
  · rcases (show i = 0 ∨ i = 1 ∨ i = 2 by omega) with rfl | rfl | rfl
    · exact h0
    · exact h1
    · exact h2
  · rcases (show i = 0 ∨ i = 1 ∨ i = 2 by omega) with rfl | rfl | rfl <;> (rw [B.cell]; rfl)
theorem builtG (K V : Nat → Nat) : Tryd.prog.built 141 [(0, .agg (pC K V)), (2, .bool true)] = some (gC K V 0) := by kernel_rfl
/-- A generator that was made of these bytes. -/
def nK (n0 n1 n2 : Nat) (f0 f1 f2 : Nat → Nat) : Nat → Nat := s2K (fun _ => 0) (fun _ => 1) (n0 + n1 + n2) (cat (cat f0 n0 f1) (n0 + n1) f2)
def nV (n0 n1 n2 : Nat) (f0 f1 f2 : Nat → Nat) : Nat → Nat := s2V (fun _ => 0) (fun _ => 1) (n0 + n1 + n2) (cat (cat f0 n0 f1) (n0 + n1) f2)
set_option maxHeartbeats 4000000 in
set_option maxRecDepth 100000 in
theorem New_no (v0 v1 v2 : Value) (n0 : Nat) (f0 : Nat → Nat) (w : World) (h0 : Se w v0 n0 f0) (hn : n0 < 32) :
    Calls Tryd.prog 20 #[v0, v1, v2] w fun e w' => e = .returned (.tuple #[.pointer none, .int .i64 111]) ∧ w' = w := by
  obtain ⟨p, c, rfl⟩ := h0.form
  have hI : (n0 : Int) < 32 := by omega
  clear h0
  go_enter Tryd.func20, Tryd.ntmps20
  go_wp2_with fail
  go_ret2
  exact ⟨rfl, rfl⟩
set_option maxHeartbeats 8000000 in
set_option maxRecDepth 100000 in
theorem New_ok (v0 v1 v2 : Value) (n0 n1 n2 : Nat) (f0 f1 f2 : Nat → Nat) (w : World) (hG : Gl w) (h0 : Se w v0 n0 f0) (h1 : Se w v1 n1 f1) (h2 : Se w v2 n2 f2) (hn : 32 ≤ n0) (hN : n0 + n1 + n2 < 9223372036854775808) :
    Calls Tryd.prog 20 #[v0, v1, v2] w fun e w' => ∃ g, e = .returned (.tuple #[.pointer (some ⟨g, 0, none⟩), .int .i64 0]) ∧ w.heap.size ≤ g ∧ Chg w w' [] ∧ Blk w' g (gC (nK n0 n1 n2 f0 f1 f2) (nV n0 n1 n2 f0 f1 f2) 0) 141 := by
  have HS : Hid (Se w v0 n0 f0 ∧ Se w v1 n1 f1 ∧ Se w v2 n2 f2 ∧ n0 + n1 + n2 < 9223372036854775808) := ⟨h0, h1, h2, hN⟩
  obtain ⟨pa, ca, rfl⟩ := h0.form
  obtain ⟨pb, cb, rfl⟩ := h1.form
  obtain ⟨pc, cc, rfl⟩ := h2.form
  have hI : ¬ (n0 : Int) < 32 := by omega
  have HG : Hid (Gl w) := hG
  have HGL : Hid (1 < w.heap.size) := hG.lt
  obtain ⟨KN, hKN⟩ : ∃ z, nK n0 n1 n2 f0 f1 f2 = z := ⟨_, rfl⟩
  obtain ⟨VN, hVN⟩ : ∃ z, nV n0 n1 n2 f0 f1 f2 = z := ⟨_, rfl⟩
  have HKN : Hid (s2K (fun _ => 0) (fun _ => 1) (n0 + n1 + n2) (cat (cat f0 n0 f1) (n0 + n1) f2) = KN) := hKN
  have HVN : Hid (s2V (fun _ => 0) (fun _ => 1) (n0 + n1 + n2) (cat (cat f0 n0 f1) (n0 + n1) f2) = VN) := hVN
  have HBG : Hid (Tryd.prog.built 141 [(0, .agg (pC (fun _ => 0) (fun _ => 1))), (2, .bool true)] = some (gC (fun _ => 0) (fun _ => 1) 0)) := builtG _ _
  rw [hKN, hVN]
  obtain ⟨PC, hPC⟩ : ∃ z, pC (fun _ => 0) (fun _ => 1) = z := ⟨_, rfl⟩
  obtain ⟨GC, hGC⟩ : ∃ z, gC (fun _ => 0) (fun _ => 1) 0 = z := ⟨_, rfl⟩
  have HGC : Hid (gC (fun _ => 0) (fun _ => 1) 0 = GC) := hGC
  have HFP := freshPool_s
  rw [hPC] at HBG HFP
  rw [hGC] at HBG
  have HF : Hid (∀ w, Calls Tryd.prog 62 #[] w fun e w' => e = .returned (.agg PC) ∧ Chg w w' []) := HFP
  clear h0 h1 h2 hn hN hG hKN hVN hPC hGC HFP
  go_enter Tryd.func20, Tryd.ntmps20
  go_wp2_with fail
  refine (HF.out w).mono ?_
  rintro e w1 ⟨rfl, k1⟩
  go_wp2_with (first
    | (have _h := BG; fail)
    | (refine wpList_build_c rfl 141 _ rfl GC (by go_simp; exact HBG.out) ?_)
    | (with_reducible refine box_w rfl 141 _ rfl GC rfl ?_; intro g w2 hg BG k2))
  have KW := k1.trans1 k2
  have HGN : Hid (w.heap.size ≤ g) := Nat.le_trans k1.size hg
  have BL := Blk.new w2 #[.slice pa n0 ca, .slice pb n1 cb, .slice pc n2 cc] 22
  have k3 := (Chg.refl w2 []).alloc (.cells #[.slice pa n0 ca, .slice pb n1 cb, .slice pc n2 cc] 22)
  have K3 := KW.trans1 k3
  have BG3 := BG.chg k3 (by simp)
  rw [← HGC.out] at BG3
  have q0 := ((HS.out.1.seo HGN.out).chg (K3.wide (l := [g])))
  have q1 := ((HS.out.2.1.seo HGN.out).chg (K3.wide (l := [g])))
  have q2 := ((HS.out.2.2.1.seo HGN.out).chg (K3.wide (l := [g])))
  have hne : ¬ w2.heap.size = g := by have := BG.lt; omega
  refine (stirIn_s g (fun _ => 0) (fun _ => 1) 0 _ 3 _ _ _ _ (HG.out.chg K3 (by simp) (by simp)) (by have := HGN.out; have := HGL.out; omega) (fun _ _ => by omega) (fun _ _ => by omega) BG3 (Pq.mk3 BL q0 q1 q2 hne) (by omega) (by omega) (by rw [cN_3]; exact HS.out.2.2.2)).mono ?_
  rintro e w4 ⟨rfl, k4, B4⟩
  rw [cN_3, cF_3, HKN.out, HVN.out] at B4
  have K4 := K3.new k4 HGN.out
  clear BL k3 K3 BG3 q0 q1 q2 hne k4 BG KW k1 k2 hg
  go_wp2_with fail
  go_ret2
  exact ⟨g, rfl, HGN.out, K4, B4⟩
end Go.Proofs.YthpfdnkcepfbaaaDoor
