/- (*Hasher).State. -/
import Derived.Test.YtjcgjhncdaplcaaDoorH11a
set_option linter.unusedVariables false
set_option linter.unusedSimpArgs false
set_option linter.unnecessarySimpa false
namespace Go.Proofs.YtjcgjhncdaplcaaDoor
open Go.RowKit

/-- A midstate's cells. -/
def mC (s : Nat → Nat) (v : Value) (n : Nat) : Array Value := vC 8 s ++ #[v, .int .u64 n]
theorem mC_size (s : Nat → Nat) (v : Value) (n : Nat) : (mC s v n).size = 10 := by unfold mC; rw [Array.size_append, vC_size]; rfl
theorem mC_one (s : Nat → Nat) (v : Value) (n : Nat) (hv : v.oneCell' = true) : (mC s v n).all (·.oneCell') = true := by
  unfold mC
  rw [Array.all_append, vC_one]
  cases v <;> simp_all [Value.oneCell']
theorem MInfo : (Tryd.prog.info? 73).map (·.size) = some 10 := by kernel_rfl
theorem builtM (s : Nat → Nat) (a : Option Addr) (k c n : Nat) : Tryd.prog.built 73 [(0, .agg (vC 8 s)), (1, .slice a k c), (2, .int .u64 n)] = some (mC s (.slice a k c) n) := by kernel_rfl
def vL (n : Nat) (f : Nat → Nat) : List Value := (List.range n).map fun i => Value.int .u64 (f i)
theorem vL_len (n : Nat) (f : Nat → Nat) : (vL n f).length = n := by simp [vL]
theorem vL_arr (n : Nat) (f : Nat → Nat) : (vL n f).toArray = vC n f := rfl
theorem front_range {w : World} {h n : Nat} {s t : Nat → Nat} {T : TypeId} (H : Blk w h (hC s t n) T) : w.rangeAt h 0 (vL 8 s) := fun j v hv => by
  have hj : j < 8 := by
    by_cases hj : j < 8
    · exact hj
    · rw [List.getElem?_eq_none (by rw [vL_len]; omega)] at hv; simp at hv
  have e : (vL 8 s)[j]? = some (.int .u64 (s j)) := by simp [vL, hj]
  rw [e] at hv
  rw [Nat.zero_add, H.cell]
  unfold hC
  rw [Array.getElem?_append_left (by rw [vC_size]; exact hj), vC_get _ _ _ hj]
  exact hv
theorem exec_load_mid {P : Program} {op : Oper} {a : Act} (w : World) (ty : TypeId) (x : Operand) (ho : op.op = .load ty x) (b o : Nat) (hx : a.eval x = .pointer (some ⟨b, o, none⟩)) (cs : List Value) (d : TypeDesc) (hc : w.rangeAt b o cs)
    (hu : P.underlying ty = some d) (hd : d.isRow = true) (hi : (P.info? ty).map (·.size) = some cs.length) {arr : Array Value} (ha : cs.toArray = arr) : (execOp a.eval op).run P w = .ok (.value (.agg arr)) w := by
  subst ha
  unfold execOp
  simp only [ho, hx, Instr.loadAt, Instr.sureAddr, Sem.run_bind, Sem.run_pure, Result.andThen_ok, run_loadVar_mid w b o ty cs d hc hu hd hi]
theorem exec_build {P : Program} {o : Oper} {a : Act} (w : World) (t : TypeId) (parts : Array (Nat × Operand)) (ho : o.op = .build t parts) (cells : Array Value) (hb : P.built t (parts.map fun (i, x) => (i, a.eval x)).toList = some cells) :
    (execOp a.eval o).run P w = .ok (.value (.agg cells)) w := by
  have h := run_build (P := P) w t (parts.map fun (i, x) => (i, a.eval x)) cells hb
  unfold execOp
  simp only [ho, Sem.run_bind, h, Result.andThen_ok, Sem.run_pure]
/-- A midstate of zeros. -/
def zM : Array Value := #[.int .u64 0, .int .u64 0, .int .u64 0, .int .u64 0, .int .u64 0, .int .u64 0, .int .u64 0, .int .u64 0, .slice none 0 0, .int .u64 0]
set_option maxHeartbeats 4000000 in
set_option maxRecDepth 100000 in
theorem State_s (h n : Nat) (s t : Nat → Nat) (w : World) (hn : U n) (ht : ∀ j, j < 128 → t j < 256) (hh : Blk w h (hC s t n) 96) :
    Calls Tryd.prog 34 #[.pointer (some ⟨h, 0, none⟩)] w fun e w' => ∃ z, e = .returned (.agg (mC s (.slice (some ⟨z, 0, none⟩) (n % 128) (n % 128)) n)) ∧ w.heap.size ≤ z ∧ Chg w w' [] ∧ Blk w' z (yC (n % 128) t) 5 := by
  unfold U at hn
  obtain ⟨r, hr⟩ : ∃ r, n % 128 = r := ⟨_, rfl⟩
  have hr1 : r < 128 := by omega
  have e1 : (n : Int).tmod 128 = (r : Int) := by rw [Int.tmod_eq_emod_of_nonneg (by omega)]; omega
  rw [hr]
  clear hr hn
  have hlt := hh.lt
  have c1 := hh.cell 136
  have c2 := hh.cell 137
  rw [hC_taken] at c1
  rw [hC_made] at c2
  have K0 := ((Chg.refl w []).alloc (.cells zM 73)).alloc (.cells (yC r fun _ => 0) 5)
  have A0 := (Blk.new w zM 73).alloc (.cells (yC r fun _ => 0) 5)
  have T0 : Blk ((w.alloc (.cells zM 73)).alloc (.cells (yC r fun _ => 0) 5)) (w.heap.size + 1) (#[] ++ (yC r (fun _ => 0) ++ #[])) 5 := by
    have q := Blk.new (w.alloc (.cells zM 73)) (yC r fun _ => 0) 5
    simpa using q
  have HB := hh.chg K0 (by simp)
  have BT := tail_Bs HB ht
  have hmk := make_y r hr1
  have hmin : Hid (r = Nat.min 128 r) := by show r = min 128 r; omega
  have HT : Hid (Blk ((w.alloc (.cells zM 73)).alloc (.cells (yC r fun _ => 0) 5)) (w.heap.size + 1) (#[] ++ (yC r (fun _ => 0) ++ #[])) 5) := T0
  clear T0
  go_enter Tryd.func34, Tryd.ntmps34
  go_wp2_with (refine copy_y rfl (.tmp 20) (.tmp 24) 22 22 rfl 5 Tryd.underlying22 u8Info (w.heap.size + 1) 0 r r (some ⟨h, 8, none⟩) 128 128 rfl rfl #[] r (fun _ => 0) #[] 5 HT.out 0 r t (fun _ => rfl) hmin.out (fun _ => ⟨h, 8, rfl, fun j hj => BT.cell j (by omega)⟩) (by omega) ?_; intro v2 B2 k2)
  replace A0 := A0.chg k2 (by simp)
  replace HB := HB.chg k2 (by simp; omega)
  replace K0 := K0.trans k2 (by simp)
  have TB0 : Blk v2 (w.heap.size + 1) (yC r t) 5 := B2.to (by rw [Array.empty_append, Array.append_empty]; exact yC_eq fun j hj => by unfold lay; rw [if_pos (by omega), Nat.sub_zero])
  have ylt := A0.lt
  clear k2 B2 HT hmin BT c1 c2 hmk
  obtain ⟨y, hy⟩ : ∃ y, w.heap.size = y := ⟨_, rfl⟩
  have HY : Hid (w.heap.size = y) := hy
  rw [hy] at A0 TB0 ylt hlt
  rw [hy]
  clear hy
  refine wp_region_held_drew (S := fun w' => Chg v2 w' [y]) (by kernel_rfl) ((Chg.refl v2 _).drew) (fun hHeld => ?_)
  refine take_val (v := ?_) 0 (some 26) rfl (by kernel_rfl) (by kernel_rfl) (by kernel_rfl) (fun _ _ _ h => h) rfl rfl (fun w hSw => ?_) hHeld ?_
  rotate_left
  · (go_simp; try with_reducible rfl)
  try simp only [Act.put, List.setIfInBounds_toArray, List.set_cons_zero, List.set_cons_succ]
  refine take_val (v := ?_) 1 (some 27) rfl (by kernel_rfl) (by kernel_rfl) (by kernel_rfl) (fun _ _ _ h => h) rfl rfl (fun w hSw => ?_) hHeld ?_
  rotate_left
  · (go_simp; try with_reducible rfl)
  try simp only [Act.put, List.setIfInBounds_toArray, List.set_cons_zero, List.set_cons_succ]
  refine take_val (v := ?_) 2 (some 28) rfl (by kernel_rfl) (by kernel_rfl) (by kernel_rfl) (fun _ _ _ h => h) rfl rfl (fun w hSw => ?_) hHeld ?_
  rotate_left
  · (go_simp; try with_reducible rfl)
  try simp only [Act.put, List.setIfInBounds_toArray, List.set_cons_zero, List.set_cons_succ]
  refine take_val (v := (.agg (vC 8 s))) 3 (some 29) rfl (by kernel_rfl) (by kernel_rfl) (by kernel_rfl) (fun _ _ _ h => h) rfl rfl (fun w hSw => ?_) hHeld ?_
  · exact exec_load_mid w 53 _ rfl h 0 rfl (vL 8 s) _ (front_range (HB.chg hSw (by simp; omega))) Tryd.underlying53 rfl (by rw [vL_len]; exact S8Info) (vL_arr 8 s)
  try simp only [Act.put, List.setIfInBounds_toArray, List.set_cons_zero, List.set_cons_succ]
  refine take_val (v := ?_) 4 (some 30) rfl (by kernel_rfl) (by kernel_rfl) (by kernel_rfl) (fun _ _ _ h => h) rfl rfl (fun w hSw => ?_) hHeld ?_
  rotate_left
  · (go_simp; try with_reducible rfl)
  try simp only [Act.put, List.setIfInBounds_toArray, List.set_cons_zero, List.set_cons_succ]
  refine take_val (v := ?_) 5 (some 31) rfl (by kernel_rfl) (by kernel_rfl) (by kernel_rfl) (fun _ _ _ h => h) rfl rfl (fun w hSw => ?_) hHeld ?_
  rotate_left
  · (go_simp; try with_reducible rfl)
  try simp only [Act.put, List.setIfInBounds_toArray, List.set_cons_zero, List.set_cons_succ]
  refine take_val (v := ?_) 6 (some 32) rfl (by kernel_rfl) (by kernel_rfl) (by kernel_rfl) (fun _ _ _ h => h) rfl rfl (fun w hSw => ?_) hHeld ?_
  rotate_left
  · (go_simp; try with_reducible rfl)
  try simp only [Act.put, List.setIfInBounds_toArray, List.set_cons_zero, List.set_cons_succ]
  refine take_val (v := ?_) 7 (some 33) rfl (by kernel_rfl) (by kernel_rfl) (by kernel_rfl) (fun _ _ _ h => h) rfl rfl (fun w hSw => ?_) hHeld ?_
  rotate_left
  · (go_simp; try with_reducible rfl)
  try simp only [Act.put, List.setIfInBounds_toArray, List.set_cons_zero, List.set_cons_succ]
  refine take_val (v := ?_) 8 (some 34) rfl (by kernel_rfl) (by kernel_rfl) (by kernel_rfl) (fun _ _ _ h => h) rfl rfl (fun w hSw => ?_) hHeld ?_
  rotate_left
  · have cg := ((HB.chg hSw (by simp; omega)).cell 136).trans (hC_taken s t n)
    (go_simp; try with_reducible rfl)
  try simp only [Act.put, List.setIfInBounds_toArray, List.set_cons_zero, List.set_cons_succ]
  refine take_val (v := (.agg (mC s (.slice (some ⟨y + 1, 0, none⟩) r r) n))) 9 (some 35) rfl (by kernel_rfl) (by kernel_rfl) (by kernel_rfl) (fun _ _ _ h => h) rfl rfl (fun w hSw => ?_) hHeld ?_
  · exact exec_build w 73 _ rfl _ (by go_simp; exact builtM s _ _ _ n)
  try simp only [Act.put, List.setIfInBounds_toArray, List.set_cons_zero, List.set_cons_succ]
  refine wpAnyH_ready (rs := [10]) (by kernel_rfl) (by simp) ?_
  refine AllReadyH.cons (o := _) rfl (fun K hK => ?_) ?_
  ·
    rw [if_pos (by rfl)]
    refine wp_store_row 73 _ _ rfl y _ rfl rfl 73 _ A0.drew (by rw [mC_size]; exact MInfo) (by rw [mC_size]; rfl) (mC_one _ _ _ rfl) ?_
    refine hK.out _ _ (hHeld.trans1 ⟨rfl, rfl, rfl, by simp, fun k hk hl => setRow_other _ _ _ _ (by simpa using hl)⟩) (fun hHeld => ?_)
    clear hK K
    try simp only [Act.put, List.setIfInBounds_toArray, List.set_cons_zero, List.set_cons_succ]
    refine wpAnyH_done (by kernel_rfl) ?_ _
    have HR := A0.drew.setRow (mC s (.slice (some ⟨y + 1, 0, none⟩) r r) n)
    have TB := TB0.chg hHeld (by simp)
    have KV := K0.trans hHeld (fun i hi => by have := HY.out; simp at hi; omega)
    clear hHeld
    go_wp2_with fail
    exact bodyPost_ret (results_cell_row Tryd.results34 _ _ y 73 _ (0, 0) _ rfl HR Tryd.underlying73 rfl (by rw [mC_size]; exact MInfo)) rfl ⟨y + 1, rfl, by have := HY.out; omega, KV, TB⟩
  exact AllReadyH.nil
end Go.Proofs.YtjcgjhncdaplcaaDoor
