/- sha512.Resume of a midstate that may be gone on with. -/
import Derived.Test.YtjcgjhncdaplcaaDoorH12
set_option linter.unusedVariables false
set_option linter.unusedSimpArgs false
set_option linter.unnecessarySimpa false
namespace Go.Proofs.YtjcgjhncdaplcaaDoor
open Go.RowKit

/-- copy of bytes, as one operation. -/
theorem copy_yo {P : Program} {w : World} {o : Oper} {a : Act} {K : Act → World → Prop} {Q : Exit → Act → World → Prop} (d s : Operand) (dT sT : TypeId)
    (ho : o.op = .call { callee := .builtin .copy, args := #[d, s], argTypes := #[dT, sT] }) (elem : TypeId) (hu : P.underlying dT = some (.slice elem)) (hsz : (P.info? elem).map (·.size) = some 1)
    (g at' dLen dCap : Nat) (sp : Option Addr) (sLen sCap : Nat) (hd : a.eval d = .slice (some ⟨g, at', none⟩) dLen dCap) (hs : a.eval s = .slice sp sLen sCap)
    (pre : Array Value) (N : Nat) (t : Nat → Nat) (post : Array Value) (T : TypeId) (hg : Blk w g (pre ++ (yC N t ++ post)) T) (off n : Nat) (f : Nat → Nat) (hat : 0 < n → at' = pre.size + off) (hn : n = Nat.min sLen dLen)
    (hsrc : 0 < n → ∃ gs os, sp = some ⟨gs, os, none⟩ ∧ ∀ j, j < n → w.cell? ⟨gs, os + j, none⟩ = some (.int .u8 (f j))) (hfit : off + n ≤ N)
    (h : ∀ w', Blk w' g (pre ++ (yC N (lay t off n f) ++ post)) T → Chg w w' [g] → K (a.put o.dst (goInt n)) w') : o.wp P a w K Q := by
  by_cases h0 : n = 0
  · subst h0
    have hrun := run_copy_none (P := P) w dT sT o.type elem (some ⟨g, at', none⟩) sp dLen dCap sLen sCap hu hsz hn.symm
    unfold Oper.wp
    simp [execOp, ho, resolve, invoke, builtin, hd, hs, hrun, Result.andThen]
    exact h w (by rw [lay_zero]; exact hg) (Chg.refl w _)
  · obtain ⟨gs, os, rfl, hc⟩ := hsrc (by omega)
    obtain rfl := hat (by omega)
    have hrun := run_copy_row (P := P) w dT sT o.type elem g (pre.size + off) dLen dCap ⟨gs, os, none⟩ sLen sCap _ T (yL n f) hu hsz hg (by rw [yL_len]; exact hn)
      (fun j v hj => by obtain ⟨h1, rfl⟩ := yL_some n f j v hj; exact add_cell (hc j h1)) (by rw [yL_len, seg_size]; omega) (yL_one n f)
    rw [yL_len, List.append_assoc, lay_row pre N t post off n f hfit] at hrun
    unfold Oper.wp
    simp [execOp, ho, resolve, invoke, builtin, hd, hs, hrun, Result.andThen]
    exact h _ (hg.setRow _) ⟨rfl, rfl, rfl, by simp, fun k hk hl => setRow_other _ _ _ _ (by simpa using hl)⟩
theorem mC_tail (s : Nat → Nat) (v : Value) (n : Nat) : (mC s v n)[8]? = some v := by unfold mC; rw [Array.getElem?_append_right (by rw [vC_size]; omega), vC_size]; rfl
theorem mC_len (s : Nat → Nat) (v : Value) (n : Nat) : (mC s v n)[9]? = some (.int .u64 n) := by unfold mC; rw [Array.getElem?_append_right (by rw [vC_size]; omega), vC_size]; rfl
theorem mid_range {w : World} {h n : Nat} {s : Nat → Nat} {v : Value} {T : TypeId} (H : Blk w h (mC s v n) T) : w.rangeAt h 0 (vL 8 s) := fun j x hv => by
  have hj : j < 8 := by
    by_cases hj : j < 8
    · exact hj
    · rw [List.getElem?_eq_none (by rw [vL_len]; omega)] at hv; simp at hv
  have e : (vL 8 s)[j]? = some (.int .u64 (s j)) := by simp [vL, hj]
  rw [e] at hv
  rw [Nat.zero_add, H.cell]
  unfold mC
  rw [Array.getElem?_append_left (by rw [vC_size]; exact hj), vC_get _ _ _ hj]
  exact hv
theorem builtR (s : Nat → Nat) (n : Nat) : Tryd.prog.built 96 [(0, .agg (vC 8 s)), (2, .int .u64 n), (3, .bool true)] = some (hC s (fun _ => 0) n) := by kernel_rfl
set_option maxHeartbeats 4000000 in
set_option maxRecDepth 100000 in
theorem Resume_s (n : Nat) (s t : Nat → Nat) (p : Option Addr) (c : Nat) (w : World) (hn : n < 2305843009213693952) (hv : Sl w (.slice p (n % 128) c) (n % 128) t) :
    Calls Tryd.prog 36 #[.agg (mC s (.slice p (n % 128) c) n)] w fun e w' => ∃ h t', e = .returned (.tuple #[.pointer (some ⟨h, 0, none⟩), .int .i64 0]) ∧ w.heap.size ≤ h ∧ Chg w w' [] ∧ (∀ j, j < 128 → t' j < 256) ∧ (∀ j, j < n % 128 → t' j = t j) ∧ Blk w' h (hC s t' n) 96 := by
  obtain ⟨r, hr⟩ : ∃ r, n % 128 = r := ⟨_, rfl⟩
  have hr1 : r < 128 := by omega
  have e1 : (n : Int).tmod 128 = (r : Int) := by rw [Int.tmod_eq_emod_of_nonneg (by omega)]; omega
  have e2 : IntKind.u64.wrap (r : Int) = (r : Int) := by rw [IntKind.wrap_u64]; omega
  have hI : ¬ (2305843009213693952 : Int) ≤ (n : Int) := by omega
  rw [hr] at hv ⊢
  have HL : Hid (∀ i, i < r → t i < 256) := by
    show ∀ i, i < r → t i < 256
    rcases hv with ⟨h0, _⟩ | ⟨g, o, cap, _, _, _, hb⟩
    · intro i hi; omega
    · exact hb.bd
  clear hr hn
  have HM8 : Hid (∀ W b T, Blk W b (mC s (.slice p r c) n) T → W.cell? ⟨b, 8, none⟩ = some (.slice p r c) ∧ W.cell? ⟨b, 9, none⟩ = some (.int .u64 (n : Int)) ∧ W.rangeAt b 0 (vL 8 s)) := fun W b T h => ⟨(h.cell 8).trans (mC_tail _ _ _), (h.cell 9).trans (mC_len _ _ _), mid_range h⟩
  have HLN : Hid ((vL 8 s).length = 8) := vL_len _ _
  have HLA : Hid ((vL 8 s).toArray = vC 8 s) := vL_arr _ _
  have HBR : Hid (Tryd.prog.built 96 [(0, .agg (vC 8 s)), (2, .int .u64 n), (3, .bool true)] = some (hC s (fun _ => 0) n)) := builtR s n
  have H8 : Hid (∀ t, hC s t n = vC 8 s ++ (yC 128 t ++ #[.int .u64 n, .bool true])) := by show ∀ t, hC s t n = _; intro t; unfold hC; rfl
  have HZF : Hid (hC s (fun _ => 0) n = vC 8 s ++ (yC 128 (fun _ => 0) ++ #[.int .u64 n, .bool true])) := H8.out _
  obtain ⟨M, hM⟩ : ∃ M, mC s (.slice p r c) n = M := ⟨_, rfl⟩
  obtain ⟨Z, hZ⟩ : ∃ Z, hC s (fun _ => 0) n = Z := ⟨_, rfl⟩
  obtain ⟨l8, hl8⟩ : ∃ l, vL 8 s = l := ⟨_, rfl⟩
  obtain ⟨v8, hv8⟩ : ∃ l, vC 8 s = l := ⟨_, rfl⟩
  rw [hM, hl8] at HM8
  rw [hl8] at HLN HLA
  rw [hv8] at HLA HBR
  rw [hZ] at HBR HZF
  rw [hM]
  have A0 := Blk.new w M 73
  obtain ⟨c8, c9, ar⟩ := HM8.out _ _ _ A0
  clear hM hZ hl8
  have K0 := (Chg.refl w []).alloc (.cells (M) 73)
  go_enter Tryd.func36, Tryd.ntmps36
  go_wp2_with (first
    | (with_reducible refine wpList_load_mid ?_ 53 (.tmp 18) ?_ w.heap.size 0 ?_ l8 _ ar Tryd.underlying53 ?_ ?_ ?_
       · rfl
       · rfl
       · rfl
       · rfl
       · (rw [HLN.out]; exact S8Info)
       rw [HLA.out])
    | (with_reducible refine wpList_build_c ?_ 96 #[(0, .tmp 19), (2, .tmp 21), (3, .const (.bool true))] ?_ Z ?_ ?_
       · rfl
       · rfl
       · (go_simp; exact HBR.out)))
  have szy : w.heap.size < (w.alloc (.cells (M) 73)).heap.size := A0.lt
  have B1 : Blk ((w.alloc (.cells (M) 73)).alloc (.cells (Z) 96)) (w.heap.size + 1) (Z) 96 := by
    have q := Blk.new (w.alloc (.cells (M) 73)) (Z) 96
    simpa using q
  have A1 := A0.alloc (.cells (Z) 96)
  replace K0 := K0.alloc (.cells (Z) 96)
  have hmin : Hid (r = Nat.min r 128) := by show r = min r 128; omega
  replace hv := hv.chg K0 (Off.nil _)
  generalize (w.alloc (.cells (M) 73)).alloc (.cells (Z) 96) = V at *
  obtain ⟨y, hy⟩ : ∃ y, w.heap.size = y := ⟨_, rfl⟩
  have HY : Hid (w.heap.size = y) := hy
  rw [hy] at A1 B1
  rw [hy]
  clear hy A0 c8 c9 ar szy
  refine wp_region_held_drew (S := fun w' => Chg V w' [y + 1]) (by kernel_rfl) ((Chg.refl V _).drew) (fun hHeld => ?_)
  refine take_val (v := ?_) 0 (some 24) rfl (by kernel_rfl) (by kernel_rfl) (by kernel_rfl) (fun _ _ _ h => h) rfl rfl (fun w hSw => ?_) hHeld ?_
  rotate_left
  · (go_simp; try with_reducible rfl)
  try simp only [Act.put, List.setIfInBounds_toArray, List.set_cons_zero, List.set_cons_succ]
  refine take_val (v := ?_) 1 (some 25) rfl (by kernel_rfl) (by kernel_rfl) (by kernel_rfl) (fun _ _ _ h => h) rfl rfl (fun w hSw => ?_) hHeld ?_
  rotate_left
  · (go_simp; try with_reducible rfl)
  try simp only [Act.put, List.setIfInBounds_toArray, List.set_cons_zero, List.set_cons_succ]
  refine take_val (v := ?_) 2 (some 26) rfl (by kernel_rfl) (by kernel_rfl) (by kernel_rfl) (fun _ _ _ h => h) rfl rfl (fun w hSw => ?_) hHeld ?_
  rotate_left
  · (go_simp; try with_reducible rfl)
  try simp only [Act.put, List.setIfInBounds_toArray, List.set_cons_zero, List.set_cons_succ]
  refine take_val (v := (.slice (some ⟨y + 1, 8, none⟩) 128 128)) 3 (some 27) rfl (by kernel_rfl) (by kernel_rfl) (by kernel_rfl) (fun _ _ _ h => h) rfl rfl (fun w hSw => ?_) hHeld ?_
  · (go_simp; try with_reducible rfl)
  try simp only [Act.put, List.setIfInBounds_toArray, List.set_cons_zero, List.set_cons_succ]
  refine take_val (v := ?_) 4 (some 28) rfl (by kernel_rfl) (by kernel_rfl) (by kernel_rfl) (fun _ _ _ h => h) rfl rfl (fun w hSw => ?_) hHeld ?_
  rotate_left
  · (go_simp; try with_reducible rfl)
  try simp only [Act.put, List.setIfInBounds_toArray, List.set_cons_zero, List.set_cons_succ]
  refine take_val (v := ?_) 5 (some 29) rfl (by kernel_rfl) (by kernel_rfl) (by kernel_rfl) (fun _ _ _ h => h) rfl rfl (fun w hSw => ?_) hHeld ?_
  rotate_left
  · have cx := (HM8.out _ _ _ (A1.chg hSw (by simp))).1
    (go_simp; try with_reducible rfl)
  try simp only [Act.put, List.setIfInBounds_toArray, List.set_cons_zero, List.set_cons_succ]
  refine wpAnyH_ready (rs := [6]) (by kernel_rfl) (by simp) ?_
  refine AllReadyH.cons (o := _) rfl (fun K hK => ?_) ?_
  ·
    rw [if_pos (by rfl)]
    have BX := B1.drew
    rw [HZF.out] at BX
    refine copy_yo (.tmp 27) (.tmp 29) 22 22 rfl 5 Tryd.underlying22 u8Info (y + 1) 8 128 128 p r c rfl rfl (vC 8 s) 128 (fun _ => 0) _ 96 BX 0 r t (fun _ => by rw [vC_size]) hmin.out (fun h0 => ?src) (by omega) ?_
    case src =>
      rcases hv with ⟨q0, _⟩ | ⟨g, o, cap, he, _, _, hb⟩
      · omega
      · simp only [Value.slice.injEq] at he
        obtain ⟨rfl, _, rfl⟩ := he
        exact ⟨g, o, rfl, hb.drew.cell⟩
    intro v5 B5 k5
    rw [← H8.out] at B5
    refine hK.out _ _ (hHeld.trans1 k5) (fun hHeld => ?_)
    clear hK K
    try simp only [Act.put, List.setIfInBounds_toArray, List.set_cons_zero, List.set_cons_succ]
    refine wpAnyH_done (by kernel_rfl) ?_ _
    have C5 := K0.trans hHeld (fun i hi => by have := HY.out; simp at hi; omega)
    clear hHeld
    go_wp2_with fail
    go_ret2
    exact ⟨y + 1, lay (fun _ => 0) 0 r t, rfl, by have := HY.out; omega, C5, lay_lt (fun _ _ => Nat.zero_lt_succ _) HL.out, fun j hj => by unfold lay; rw [if_pos (by omega), Nat.sub_zero], B5⟩
  exact AllReadyH.nil
end Go.Proofs.YtjcgjhncdaplcaaDoor
