/- seal: split. -/
import Derived.Test.YtnopkojpgemldaaSeX
set_option linter.unusedVariables false
set_option linter.unusedSimpArgs false
set_option linter.unnecessarySimpa false
namespace Go.Proofs.Ytnopkojpgemldaa
open Go.RowKit

theorem results_tmp_cell {P : Program} {fn : Func} {p q : Tmp} {ty : TypeId} (h : fn.results = #[.tmp q, .cell p ty]) (tmps : Array Value) (w : World) (g : Nat) (t : TypeId) (cs : Array Value) (d : TypeDesc) (v : Value)
    (hp : tmps.getD p undef = .pointer (some ⟨g, 0, none⟩)) (hq : tmps.getD q undef = v) (hg : w.heap[g]? = some (.cells cs t (0, 0)))
    (hu : P.underlying ty = some d) (hd : (match d with | .struct _ | .array _ _ => true | _ => false) = true) (hi : (P.info? ty).map (·.size) = some cs.size) :
    (results fn tmps).run P w = .ok (.tuple #[v, .agg cs]) w := by
  have hp' : tmps[p]?.getD undef = .pointer (some ⟨g, 0, none⟩) := by simpa using hp
  have hq' : tmps[q]?.getD undef = v := by simpa using hq
  simp [results, h, hp', hq', asAddr, run_loadVar_row w g t ty cs (0, 0) d hg hu hd hi]
set_option maxHeartbeats 8000000 in
set_option maxRecDepth 100000 in
theorem split_s (g o N c : Nat) (f : Nat → Nat) (w : World) (hb : Bs w g o (N + 16) f) (hc : N + 16 ≤ c) (hc2 : c ≤ 9223372036854775807) :
    Calls Try.prog 28 #[.slice (some ⟨g, o, none⟩) (N + 16) c] w fun e w' => e = .returned (.tuple #[.slice (some ⟨g, o, none⟩) N c, .agg (yC 16 (fun i => f (N + i)))]) ∧ Chg w w' [] := by
  have HB : Hid (Bs w g o (N + 16) f) := hb
  obtain ⟨ks, hks⟩ : ∃ s, (fun i => f (N + i)) = s := ⟨_, rfl⟩
  rw [hks]
  have HKS : Hid (∀ j, j < 16 → f (N + j) = ks j) := fun j _ => by rw [← hks]
  obtain ⟨n, hn⟩ : ∃ n, N + 16 = n := ⟨_, rfl⟩
  rw [hn] at HB ⊢
  have HN : Hid (N + 16 = n ∧ n ≤ c) := ⟨hn, by omega⟩
  have e1 : IntKind.i64.wrap ((n : Int) - 16) = (N : Int) := by rw [IntKind.wrap_i64]; omega
  have i1 : (N : Int) ≤ (n : Int) := by omega
  have i2 : (n : Int) ≤ (c : Int) := by omega
  have i3 : (N : Int) ≤ (c : Int) := by omega
  have i4 : ¬ c = N := by omega
  have i5 : n - N = 16 := by omega
  have hat := fun w => run_arrayAt (P := Try.prog) w 43 5 16 (some ⟨g, o + N, none⟩) 16 (c - N) Try.underlying43 (Nat.le_refl _)
  clear hks hn hb hc hc2
  go_enter Try.func28, Try.ntmps28
  go_wp2_with (with_reducible refine alloc_w rfl 43 rfl (.agg (yC 16 (fun _ => 0))) zeroTag (yC 16 (fun _ => 0)) rfl ?_; intro rb w1 hrb BR k1)
  have HB1 := HB.out.chg k1 (by simp)
  have HG : Hid (g < w.heap.size) := HB.out.lt
  refine lt_begin (fun w' => Bs w' g o n f) (fun _ => false) (by kernel_rfl) ?_
  replace BR := BR.drew
  replace k1 := k1.drew
  have hHeld := HB1.drew
  obtain ⟨z, hz⟩ : ∃ z, z = w1.drew := ⟨_, rfl⟩
  rw [← hz] at BR k1 hHeld ⊢
  clear hz HB1
  refine lt_val (v := ?_) 0 (some 8) rfl (by kernel_rfl) (by kernel_rfl) (by kernel_rfl) (fun _ _ _ h => h) rfl rfl (fun w => ?_) ?_
  rotate_left
  · (go_simp; try with_reducible rfl)
  try simp only [Act.put, List.setIfInBounds_toArray, List.set_cons_zero, List.set_cons_succ]
  refine lt_val (v := ?_) 1 (some 9) rfl (by kernel_rfl) (by kernel_rfl) (by kernel_rfl) (fun _ _ _ h => h) rfl rfl (fun w => ?_) ?_
  rotate_left
  · (go_simp; try with_reducible rfl)
  try simp only [Act.put, List.setIfInBounds_toArray, List.set_cons_zero, List.set_cons_succ]
  refine lt_val (v := (.slice (some ⟨g, o, none⟩) N c)) 2 (some 10) rfl (by kernel_rfl) (by kernel_rfl) (by kernel_rfl) (fun _ _ _ h => h) rfl rfl (fun w => ?_) ?_
  · (go_simp; try with_reducible rfl)
  try simp only [Act.put, List.setIfInBounds_toArray, List.set_cons_zero, List.set_cons_succ]
  refine lt_val (v := ?_) 3 (some 11) rfl (by kernel_rfl) (by kernel_rfl) (by kernel_rfl) (fun _ _ _ h => h) rfl rfl (fun w => ?_) ?_
  rotate_left
  · (go_simp; try with_reducible rfl)
  try simp only [Act.put, List.setIfInBounds_toArray, List.set_cons_zero, List.set_cons_succ]
  refine lt_val (v := ?_) 4 (some 12) rfl (by kernel_rfl) (by kernel_rfl) (by kernel_rfl) (fun _ _ _ h => h) rfl rfl (fun w => ?_) ?_
  rotate_left
  · (go_simp; try with_reducible rfl)
  try simp only [Act.put, List.setIfInBounds_toArray, List.set_cons_zero, List.set_cons_succ]
  refine lt_val (v := (.slice (some ⟨g, o + N, none⟩) 16 (c - N))) 5 (some 13) rfl (by kernel_rfl) (by kernel_rfl) (by kernel_rfl) (fun _ _ _ h => h) rfl rfl (fun w => ?_) ?_
  · (go_simp; try with_reducible rfl)
  try simp only [Act.put, List.setIfInBounds_toArray, List.set_cons_zero, List.set_cons_succ]
  refine lt_val (v := (.pointer (some ⟨g, o + N, none⟩))) 6 (some 14) rfl (by kernel_rfl) (by kernel_rfl) (by kernel_rfl) (fun _ _ _ h => h) rfl rfl (fun w => ?_) ?_
  · (go_simp; try with_reducible rfl)
  try simp only [Act.put, List.setIfInBounds_toArray, List.set_cons_zero, List.set_cons_succ]
  refine lt_read (v := (.agg (yC 16 ks))) 7 (some 15) rfl (by kernel_rfl) (by kernel_rfl) (by kernel_rfl) (by kernel_rfl) (fun _ _ _ h => h) rfl rfl (fun w hSw => ?_) hHeld ?_
  · skip; exact (exec_load_m w 43 (.tmp 14) rfl g (o + N) rfl (yL 16 ks) _ (fun j x hj => by obtain ⟨h1, rfl⟩ := yL_some _ _ _ _ hj; rw [Nat.add_assoc, hSw.cell _ (by have := HN.out; omega), HKS.out j h1]) Try.underlying43 rfl (by rw [yL_len]; exact tagInfo))
  try simp only [Act.put, List.setIfInBounds_toArray, List.set_cons_zero, List.set_cons_succ]
  refine lt_val (v := ?_) 8 (some 2) rfl (by kernel_rfl) (by kernel_rfl) (by kernel_rfl) (fun _ _ _ h => h) rfl rfl (fun w => ?_) ?_
  rotate_left
  · (go_simp; try with_reducible rfl)
  try simp only [Act.put, List.setIfInBounds_toArray, List.set_cons_zero, List.set_cons_succ]
  refine lt_one 9 rfl (by kernel_rfl) rfl (fun K hK => ?_)
  refine wp_store_w BR 43 _ _ (yC 16 ks) rfl rfl rfl (by rw [yC_size]; exact tagInfo) (by rw [yC_size, yC_size]) (yC_one 16 _) ?_
  intro w2 BR2 k2
  change K (Act.put _ none _) _
  refine hK.out _ _ (fun _ h => h.chg k2 (by have := HG.out; simp; omega)) ?_
  clear hK K
  try simp only [Act.put, List.setIfInBounds_toArray, List.set_cons_zero, List.set_cons_succ]
  refine lt_done (by kernel_rfl) ?_ _
  have C : Chg w w2 [] := k1.new k2 hrb
  go_wp2_with fail
  exact bodyPost_ret (results_tmp_cell Try.results28 _ _ rb 43 (yC 16 ks) _ _ rfl rfl BR2 Try.underlying43 rfl (by rw [yC_size]; exact tagInfo)) rfl ⟨rfl, C⟩
end Go.Proofs.Ytnopkojpgemldaa
