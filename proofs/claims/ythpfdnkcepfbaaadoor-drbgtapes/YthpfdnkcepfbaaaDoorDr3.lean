/- drbg: a generator's block; pool.next. -/
import Derived.Test.YthpfdnkcepfbaaaDoorDr2
set_option linter.unusedVariables false
set_option linter.unusedSimpArgs false
set_option linter.unnecessarySimpa false
namespace Go.Proofs.YthpfdnkcepfbaaaDoor
open Go.RowKit

/-- A generator's cells: K, V, how many draws; made. -/
def gC (K V : Nat → Nat) (d : Nat) : Array Value := yC 64 K ++ (yC 64 V ++ #[.int .i64 (d : Int), .bool true])
theorem gC_size (K V : Nat → Nat) (d : Nat) : (gC K V d).size = 130 := by unfold gC; simp [yC_size]
theorem gC_lo (K V : Nat → Nat) (d i : Nat) (h : i < 64) : (gC K V d)[i]? = some (.int .u8 (K i)) := by
  unfold gC; rw [Array.getElem?_append_left (by rw [yC_size]; exact h), yC_get _ _ _ h]
theorem gC_hi (K V : Nat → Nat) (d i : Nat) (h : i < 64) : (gC K V d)[64 + i]? = some (.int .u8 (V i)) := by
  unfold gC
  rw [Array.getElem?_append_right (by rw [yC_size]; omega), yC_size, show 64 + i - 64 = i by omega, Array.getElem?_append_left (by rw [yC_size]; exact h), yC_get _ _ _ h]
theorem gC_d (K V : Nat → Nat) (d : Nat) : (gC K V d)[128]? = some (.int .i64 (d : Int)) := by
  unfold gC
  rw [Array.getElem?_append_right (by rw [yC_size]; omega), yC_size, Array.getElem?_append_right (by rw [yC_size]; omega), yC_size]; rfl
theorem gC_m (K V : Nat → Nat) (d : Nat) : (gC K V d)[129]? = some (.bool true) := by
  unfold gC
  rw [Array.getElem?_append_right (by rw [yC_size]; omega), yC_size, Array.getElem?_append_right (by rw [yC_size]; omega), yC_size]; rfl
theorem gC_K {w : World} {g : Nat} {K V : Nat → Nat} {d : Nat} {T : TypeId} (B : Blk w g (gC K V d) T) (hK : ∀ i, i < 64 → K i < 256) : Bs w g 0 64 K :=
  ⟨B.lt, hK, fun i hi => by rw [Nat.zero_add, B.cell, gC_lo _ _ _ _ hi]⟩
theorem gC_V {w : World} {g : Nat} {K V : Nat → Nat} {d : Nat} {T : TypeId} (B : Blk w g (gC K V d) T) (hV : ∀ i, i < 64 → V i < 256) : Bs w g 64 64 V :=
  ⟨B.lt, hV, fun i hi => by rw [B.cell, gC_hi _ _ _ _ hi]⟩
theorem Bs.sl {w : World} {g o n : Nat} {f : Nat → Nat} (h : Bs w g o n f) (c : Nat) (hc : n ≤ c) (hc2 : c ≤ 9223372036854775807) : Sl w (.slice (some ⟨g, o, none⟩) n c) n f := Or.inr ⟨g, o, c, rfl, hc, hc2, h⟩
theorem gC_rV {w : World} {g : Nat} {K V : Nat → Nat} {d : Nat} {T : TypeId} (B : Blk w g (gC K V d) T) : w.rangeAt g 64 (yL 64 V) := fun j v hv => by
  obtain ⟨hj, rfl⟩ := yL_some _ _ _ _ hv
  rw [B.cell, gC_hi _ _ _ _ hj]
theorem gC_at (K V : Nat → Nat) (d i : Nat) : (gC K V d)[i]? = if i < 64 then some (.int .u8 (K i)) else if i < 128 then some (.int .u8 (V (i - 64))) else if i = 128 then some (.int .i64 (d : Int)) else if i = 129 then some (.bool true) else none := by
  by_cases h1 : i < 64
  · rw [if_pos h1, gC_lo _ _ _ _ h1]
  · rw [if_neg h1]
    by_cases h2 : i < 128
    · rw [if_pos h2]
      have := gC_hi K V d (i - 64) (by omega)
      rwa [show 64 + (i - 64) = i by omega] at this
    · rw [if_neg h2]
      by_cases h3 : i = 128
      · subst h3; rw [if_pos rfl, gC_d]
      · rw [if_neg h3]
        by_cases h4 : i = 129
        · subst h4; rw [if_pos rfl, gC_m]
        · rw [if_neg h4, Array.getElem?_eq_none (by rw [gC_size]; omega)]
theorem gC_setV (K V V' : Nat → Nat) (d : Nat) : setL (gC K V d) 64 (yC 64 V').toList = gC K V' d := by
  apply Array.ext_getElem?
  intro i
  rw [setL_get, gC_size, gC_at, gC_at]
  have hl : (yC 64 V').toList.length = 64 := by simp [yC_size]
  rw [hl]
  by_cases h1 : i < 64
  · rw [if_neg (by omega), if_pos h1, if_pos h1]
  · by_cases h2 : i < 128
    · rw [if_pos (by omega), if_neg h1, if_pos h2, Array.getElem?_toList, yC_get _ _ _ (by omega)]
    · rw [if_neg (by omega), if_neg h1, if_neg h2, if_neg h1, if_neg h2]
theorem gC_setK (K K' V : Nat → Nat) (d : Nat) : setL (gC K V d) 0 (yC 64 K').toList = gC K' V d := by
  apply Array.ext_getElem?
  intro i
  rw [setL_get, gC_size, gC_at, gC_at]
  have hl : (yC 64 K').toList.length = 64 := by simp [yC_size]
  rw [hl]
  by_cases h1 : i < 64
  · rw [if_pos (by omega), if_pos h1, Array.getElem?_toList, Nat.sub_zero, yC_get _ _ _ (by omega)]
  · rw [if_neg (by omega), if_neg h1, if_neg h1]
theorem wp_store_gV {w : World} {op : Oper} {a : Act} {K' : Act → World → Prop} {Q : Exit → Act → World → Prop} {g : Nat} {K V : Nat → Nat} {d : Nat} {T : TypeId} (B : Blk w g (gC K V d) T) (x y : Operand) (ho : op.op = .store 47 x y) (V' : Nat → Nat)
    (hx : a.eval x = .pointer (some ⟨g, 64, none⟩)) (hy : a.eval y = .agg (yC 64 V'))
    (h : ∀ w', Blk w' g (gC K V' d) T → Chg w w' [g] → K' (a.put op.dst undef) w') : op.wp Tryd.prog a w K' Q := by
  refine wp_store_mid 47 x y ho g 64 (yC 64 V') hx hy ?_ (by rw [yC_size]; exact digInfo) (yC_one 64 _) ?_
  · rw [yC_size]; exact B.there (by rw [gC_size]; omega)
  · exact h _ ((B.setCells 64 _).to (gC_setV K V V' d)) ((Chg.refl w [g]).setCellsIn (by simp) 64 _)
theorem wp_store_gK {w : World} {op : Oper} {a : Act} {K' : Act → World → Prop} {Q : Exit → Act → World → Prop} {g : Nat} {K V : Nat → Nat} {d : Nat} {T : TypeId} (B : Blk w g (gC K V d) T) (x y : Operand) (ho : op.op = .store 47 x y) (K1 : Nat → Nat)
    (hx : a.eval x = .pointer (some ⟨g, 0, none⟩)) (hy : a.eval y = .agg (yC 64 K1))
    (h : ∀ w', Blk w' g (gC K1 V d) T → Chg w w' [g] → K' (a.put op.dst undef) w') : op.wp Tryd.prog a w K' Q := by
  refine wp_store_mid 47 x y ho g 0 (yC 64 K1) hx hy ?_ (by rw [yC_size]; exact digInfo) (yC_one 64 _) ?_
  · rw [yC_size]; exact B.there (by rw [gC_size]; omega)
  · exact h _ ((B.setCells 0 _).to (gC_setK K K1 V d)) ((Chg.refl w [g]).setCellsIn (by simp) 0 _)
set_option maxHeartbeats 8000000 in
set_option maxRecDepth 100000 in
theorem next_s (g : Nat) (K V : Nat → Nat) (d : Nat) (w : World) (hG : Gl w) (hg : 2 ≤ g) (hK : ∀ i, i < 64 → K i < 256) (hV : ∀ i, i < 64 → V i < 256) (BG0 : Blk w g (gC K V d) 141) :
    Calls Tryd.prog 68 #[.pointer (some ⟨g, 0, none⟩)] w fun e w' => e = .returned (.agg (yC 64 (mac 64 K 64 V))) ∧ Chg w w' [g] ∧ Blk w' g (gC K (mac 64 K 64 V) d) 141 := by
  obtain ⟨V', hE⟩ : ∃ X, mac 64 K 64 V = X := ⟨_, rfl⟩
  have HE : Hid (mac 64 K 64 V = V') := hE
  have HK : Hid (∀ i, i < 64 → K i < 256) := hK
  have HV : Hid (∀ i, i < 64 → V i < 256) := hV
  have HG : Hid (Gl w) := hG
  have HG0 : Hid (¬ 0 ∈ [g]) := by show ¬ 0 ∈ [g]; simp; omega
  have HG1 : Hid (¬ 1 ∈ [g]) := by show ¬ 1 ∈ [g]; simp; omega
  have HGL : Hid (g < w.heap.size ∧ 2 ≤ g) := ⟨BG0.lt, hg⟩
  rw [hE]
  clear hE hK hV hG hg
  obtain ⟨ib, hib, hibz, hibs, _⟩ := bytesRow
  go_enter Tryd.func68, Tryd.ntmps68
  go_upto_region 1 with (with_reducible refine alloc_w rfl 47 rfl (.agg (yC 64 (fun _ => 0))) zeroDig (yC 64 (fun _ => 0)) rfl ?_; intro rb w1 hrb BR k1)
  have BG := BG0.chg k1 (by simp)
  have HRG : Hid (¬ rb ∈ [g]) := by show ¬ rb ∈ [g]; have := HGL.out; simp; omega
  have HGR : Hid (¬ g ∈ [rb]) := by show ¬ g ∈ [rb]; have := HGL.out; simp; omega
  have HRN : Hid (∀ i, i ∈ [rb] → i ∈ [g] ∨ w.heap.size ≤ i) := by show ∀ i, i ∈ [rb] → _; intro i hi; simp at hi; subst hi; exact Or.inr hrb
  clear hrb BG0
  refine wp_region_held_drew (S := fun w' => Chg w1 w' [g]) (by kernel_rfl) ((Chg.refl w1 _).drew) (fun hHeld => ?_)
  refine take_val (v := ?_) 0 (some 3) rfl (by kernel_rfl) (by kernel_rfl) (by kernel_rfl) (fun _ _ _ h => h) rfl rfl (fun w hSw => ?_) hHeld ?_
  rotate_left
  · (go_simp; try with_reducible rfl)
  try simp only [Act.put, List.setIfInBounds_toArray, List.set_cons_zero, List.set_cons_succ]
  refine take_val (v := ?_) 1 (some 4) rfl (by kernel_rfl) (by kernel_rfl) (by kernel_rfl) (fun _ _ _ h => h) rfl rfl (fun w hSw => ?_) hHeld ?_
  rotate_left
  · (go_simp; try with_reducible rfl)
  try simp only [Act.put, List.setIfInBounds_toArray, List.set_cons_zero, List.set_cons_succ]
  refine take_val (v := ?_) 2 (some 5) rfl (by kernel_rfl) (by kernel_rfl) (by kernel_rfl) (fun _ _ _ h => h) rfl rfl (fun w hSw => ?_) hHeld ?_
  rotate_left
  · (go_simp; try with_reducible rfl)
  try simp only [Act.put, List.setIfInBounds_toArray, List.set_cons_zero, List.set_cons_succ]
  refine take_val (v := (.pointer (some ⟨g, 0, none⟩))) 3 (some 6) rfl (by kernel_rfl) (by kernel_rfl) (by kernel_rfl) (fun _ _ _ h => h) rfl rfl (fun w hSw => ?_) hHeld ?_
  · (go_simp; try with_reducible rfl)
  try simp only [Act.put, List.setIfInBounds_toArray, List.set_cons_zero, List.set_cons_succ]
  refine take_val (v := (.slice (some ⟨g, 0, none⟩) 64 64)) 4 (some 7) rfl (by kernel_rfl) (by kernel_rfl) (by kernel_rfl) (fun _ _ _ h => h) rfl rfl (fun w hSw => ?_) hHeld ?_
  · (go_simp; try with_reducible rfl)
  try simp only [Act.put, List.setIfInBounds_toArray, List.set_cons_zero, List.set_cons_succ]
  refine take_val (v := ?_) 5 (some 8) rfl (by kernel_rfl) (by kernel_rfl) (by kernel_rfl) (fun _ _ _ h => h) rfl rfl (fun w hSw => ?_) hHeld ?_
  rotate_left
  · (go_simp; try with_reducible rfl)
  try simp only [Act.put, List.setIfInBounds_toArray, List.set_cons_zero, List.set_cons_succ]
  refine take_val (v := ?_) 6 (some 9) rfl (by kernel_rfl) (by kernel_rfl) (by kernel_rfl) (fun _ _ _ h => h) rfl rfl (fun w hSw => ?_) hHeld ?_
  rotate_left
  · (go_simp; try with_reducible rfl)
  try simp only [Act.put, List.setIfInBounds_toArray, List.set_cons_zero, List.set_cons_succ]
  refine take_val (v := (.pointer (some ⟨g, 64, none⟩))) 7 (some 10) rfl (by kernel_rfl) (by kernel_rfl) (by kernel_rfl) (fun _ _ _ h => h) rfl rfl (fun w hSw => ?_) hHeld ?_
  · (go_simp; try with_reducible rfl)
  try simp only [Act.put, List.setIfInBounds_toArray, List.set_cons_zero, List.set_cons_succ]
  refine take_val (v := (.slice (some ⟨g, 64, none⟩) 64 64)) 8 (some 11) rfl (by kernel_rfl) (by kernel_rfl) (by kernel_rfl) (fun _ _ _ h => h) rfl rfl (fun w hSw => ?_) hHeld ?_
  · (go_simp; try with_reducible rfl)
  try simp only [Act.put, List.setIfInBounds_toArray, List.set_cons_zero, List.set_cons_succ]
  refine wpAnyH_ready (rs := [9]) (by kernel_rfl) (by simp) ?_
  refine AllReadyH.cons (o := _) rfl (fun K' hK => ?_) ?_
  ·
    rw [if_pos (by rfl)]
    refine wp_bsl_o 23 22 1 #[(0, .tmp 11)] rfl [(0, .slice (some ⟨g, 64, none⟩) 64 64)] (by simp [Act.eval]) #[.slice (some ⟨g, 64, none⟩) 64 64] ib (.slice none 0 0) Tryd.underlying23 hib hibz 1 hibs (by omega) (by omega) (fillS1 _ _ _) ?_
    intro g2 v2 hg2 B2 k2
    change K' (Act.put _ (some 12) _) _
    refine hK.out _ _ (hHeld.trans k2 (by simp)) (fun hHeld => ?_)
    clear hK K'
    try simp only [Act.put, List.setIfInBounds_toArray, List.set_cons_zero, List.set_cons_succ]
    replace BG := BG.drew.chg k2 (by simp)
    clear k2
    refine wpAnyH_ready (rs := [10]) (by kernel_rfl) (by simp) ?_
    refine AllReadyH.cons (o := _) rfl (fun K' hK => ?_) ?_
    ·
      go_simp
      have SK := (gC_K BG HK.out).sl 64 (by omega) (by omega)
      have SV := (gC_V BG HV.out).sl 64 (by omega) (by omega)
      refine (MAC_s _ 64 K _ 1 _ _ _ _ (HG.out.chg ((k1.wide (l := [g])).trans1 hHeld) HG0.out HG1.out) (Or.inl SK) (by omega) (Ps.mk1 B2 (Or.inl SV)) (by rw [cN_1]; omega)).mono ?_
      rintro e v3 ⟨rfl, k3⟩
      rw [cN_1, cF_1, HE.out]
      go_wp2_with fail
      refine hK.out _ _ (hHeld.trans k3 (by simp)) (fun hHeld => ?_)
      clear hK K'
      try simp only [Act.put, List.setIfInBounds_toArray, List.set_cons_zero, List.set_cons_succ]
      replace BG := BG.chg k3 (by simp)
      clear k3
      refine take_val (v := ?_) 11 (some 14) rfl (by kernel_rfl) (by kernel_rfl) (by kernel_rfl) (fun _ _ _ h => h) rfl rfl (fun w hSw => ?_) hHeld ?_
      rotate_left
      · (go_simp; try with_reducible rfl)
      try simp only [Act.put, List.setIfInBounds_toArray, List.set_cons_zero, List.set_cons_succ]
      refine take_val (v := (.pointer (some ⟨g, 64, none⟩))) 12 (some 15) rfl (by kernel_rfl) (by kernel_rfl) (by kernel_rfl) (fun _ _ _ h => h) rfl rfl (fun w hSw => ?_) hHeld ?_
      · (go_simp; try with_reducible rfl)
      try simp only [Act.put, List.setIfInBounds_toArray, List.set_cons_zero, List.set_cons_succ]
      refine wpAnyH_ready (rs := [13]) (by kernel_rfl) (by simp) ?_
      refine AllReadyH.cons (o := _) rfl (fun K' hK => ?_) ?_
      ·
        rw [if_pos (by rfl)]
        refine wp_store_gV BG _ _ rfl V' rfl rfl ?_
        intro v4 BG4 k4
        refine hK.out _ _ (hHeld.trans1 k4) (fun hHeld => ?_)
        clear hK K'
        try simp only [Act.put, List.setIfInBounds_toArray, List.set_cons_zero, List.set_cons_succ]
        clear k4 BG
        refine wpAnyH_done (by kernel_rfl) ?_ _
        obtain ⟨w5, rfl⟩ : ∃ z, z = v4 := ⟨v4, rfl⟩
        have BR5 := BR.chg hHeld HRG.out
        have K5 : Chg w w5 [g] := (k1.wide (l := [g])).trans1 hHeld
        clear hHeld BR B2
        go_wp2_with (first
          | (have _h := BR5; refine wpList_load_mid rfl 47 _ rfl g 64 rfl (yL 64 V') _ (gC_rV BG4) Tryd.underlying47 rfl (by rw [yL_len]; exact digInfo) ?_)
          | (refine store_w BR5 rfl 47 _ _ (yC 64 V') rfl rfl rfl (by rw [yC_size]; exact digInfo) (by rw [yC_size, yC_size]) (yC_one 64 _) ?_; intro w6 BR6 k6))
        exact bodyPost_ret (results_cell_row Tryd.results68 _ _ rb 47 _ (0, 0) _ rfl BR6 Tryd.underlying47 rfl (by rw [yC_size]; exact digInfo)) rfl ⟨rfl, K5.trans k6 HRN.out, BG4.chg k6 HGR.out⟩
      exact AllReadyH.nil
    exact AllReadyH.nil
  exact AllReadyH.nil
end Go.Proofs.YthpfdnkcepfbaaaDoor
