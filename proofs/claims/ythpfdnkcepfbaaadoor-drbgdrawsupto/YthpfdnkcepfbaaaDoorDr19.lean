/- rimeref11: a generator in memory; stir. -/
import Derived.Test.YthpfdnkcepfbaaaDoorDr17
import Derived.Test.YthpfdnkcepfbaaaDoorDr5
import Derived.Test.YthpfdnkcepfbaaaDoorDr8
set_option linter.unusedVariables false
set_option linter.unusedSimpArgs false
set_option linter.unnecessarySimpa false
namespace Go.Proofs.YthpfdnkcepfbaaaDoor
open Go.RowKit

/-- A generator by the page: K, V, how many draws. -/
def rC (K V : Nat → Nat) (d : Nat) : Array Value := yC 64 K ++ (yC 64 V ++ #[.int .i64 (d : Int)])
theorem rC_size (K V : Nat → Nat) (d : Nat) : (rC K V d).size = 129 := by unfold rC; simp [yC_size]
theorem rC_lo (K V : Nat → Nat) (d i : Nat) (h : i < 64) : (rC K V d)[i]? = some (.int .u8 (K i)) := by
  unfold rC; rw [Array.getElem?_append_left (by rw [yC_size]; exact h), yC_get _ _ _ h]
theorem rC_hi (K V : Nat → Nat) (d i : Nat) (h : i < 64) : (rC K V d)[64 + i]? = some (.int .u8 (V i)) := by
  unfold rC
  rw [Array.getElem?_append_right (by rw [yC_size]; omega), yC_size, show 64 + i - 64 = i by omega, Array.getElem?_append_left (by rw [yC_size]; exact h), yC_get _ _ _ h]
theorem rC_d (K V : Nat → Nat) (d : Nat) : (rC K V d)[128]? = some (.int .i64 (d : Int)) := by
  unfold rC
  rw [Array.getElem?_append_right (by rw [yC_size]; omega), yC_size, Array.getElem?_append_right (by rw [yC_size]; omega), yC_size]; rfl
theorem rC_K {w : World} {g : Nat} {K V : Nat → Nat} {d : Nat} {T : TypeId} (B : Blk w g (rC K V d) T) (hK : ∀ i, i < 64 → K i < 256) : Bs w g 0 64 K :=
  ⟨B.lt, hK, fun i hi => by rw [Nat.zero_add, B.cell, rC_lo _ _ _ _ hi]⟩
theorem rC_V {w : World} {g : Nat} {K V : Nat → Nat} {d : Nat} {T : TypeId} (B : Blk w g (rC K V d) T) (hV : ∀ i, i < 64 → V i < 256) : Bs w g 64 64 V :=
  ⟨B.lt, hV, fun i hi => by rw [B.cell, rC_hi _ _ _ _ hi]⟩
theorem Bs.slr {w : World} {g o n : Nat} {f : Nat → Nat} (h : Bs w g o n f) (c : Nat) (hc : n ≤ c) (hc2 : c ≤ 9223372036854775807) : Sl w (.slice (some ⟨g, o, none⟩) n c) n f := Or.inr ⟨g, o, c, rfl, hc, hc2, h⟩
theorem rC_rV {w : World} {g : Nat} {K V : Nat → Nat} {d : Nat} {T : TypeId} (B : Blk w g (rC K V d) T) : w.rangeAt g 64 (yL 64 V) := fun j v hv => by
  obtain ⟨hj, rfl⟩ := yL_some _ _ _ _ hv
  rw [B.cell, rC_hi _ _ _ _ hj]
theorem rC_at (K V : Nat → Nat) (d i : Nat) : (rC K V d)[i]? = if i < 64 then some (.int .u8 (K i)) else if i < 128 then some (.int .u8 (V (i - 64))) else if i = 128 then some (.int .i64 (d : Int)) else none := by
  by_cases h1 : i < 64
  · rw [if_pos h1, rC_lo _ _ _ _ h1]
  · rw [if_neg h1]
    by_cases h2 : i < 128
    · rw [if_pos h2]
      have := rC_hi K V d (i - 64) (by omega)
      rwa [show 64 + (i - 64) = i by omega] at this
    · rw [if_neg h2]
      by_cases h3 : i = 128
      · subst h3; rw [if_pos rfl, rC_d]
      · rw [if_neg h3, Array.getElem?_eq_none (by rw [rC_size]; omega)]
theorem rC_setV (K V V' : Nat → Nat) (d : Nat) : setL (rC K V d) 64 (yC 64 V').toList = rC K V' d := by
  apply Array.ext_getElem?
  intro i
  rw [setL_get, rC_size, rC_at, rC_at]
  have hl : (yC 64 V').toList.length = 64 := by simp [yC_size]
  rw [hl]
  by_cases h1 : i < 64
  · rw [if_neg (by omega), if_pos h1, if_pos h1]
  · by_cases h2 : i < 128
    · rw [if_pos (by omega), if_neg h1, if_pos h2, Array.getElem?_toList, yC_get _ _ _ (by omega)]
    · rw [if_neg (by omega), if_neg h1, if_neg h2, if_neg h1, if_neg h2]
theorem rC_setK (K K' V : Nat → Nat) (d : Nat) : setL (rC K V d) 0 (yC 64 K').toList = rC K' V d := by
  apply Array.ext_getElem?
  intro i
  rw [setL_get, rC_size, rC_at, rC_at]
  have hl : (yC 64 K').toList.length = 64 := by simp [yC_size]
  rw [hl]
  by_cases h1 : i < 64
  · rw [if_pos (by omega), if_pos h1, Array.getElem?_toList, Nat.sub_zero, yC_get _ _ _ (by omega)]
  · rw [if_neg (by omega), if_neg h1, if_neg h1]
theorem wp_store_rV {w : World} {op : Oper} {a : Act} {K' : Act → World → Prop} {Q : Exit → Act → World → Prop} {g : Nat} {K V : Nat → Nat} {d : Nat} {T : TypeId} (B : Blk w g (rC K V d) T) (x y : Operand) (ho : op.op = .store 47 x y) (V' : Nat → Nat)
    (hx : a.eval x = .pointer (some ⟨g, 64, none⟩)) (hy : a.eval y = .agg (yC 64 V'))
    (h : ∀ w', Blk w' g (rC K V' d) T → Chg w w' [g] → K' (a.put op.dst undef) w') : op.wp Tryd.prog a w K' Q := by
  refine wp_store_mid 47 x y ho g 64 (yC 64 V') hx hy ?_ (by rw [yC_size]; exact digInfo) (yC_one 64 _) ?_
  · rw [yC_size]; exact B.there (by rw [rC_size]; omega)
  · exact h _ ((B.setCells 64 _).to (rC_setV K V V' d)) ((Chg.refl w [g]).setCellsIn (by simp) 64 _)
theorem wp_store_rK {w : World} {op : Oper} {a : Act} {K' : Act → World → Prop} {Q : Exit → Act → World → Prop} {g : Nat} {K V : Nat → Nat} {d : Nat} {T : TypeId} (B : Blk w g (rC K V d) T) (x y : Operand) (ho : op.op = .store 47 x y) (K1 : Nat → Nat)
    (hx : a.eval x = .pointer (some ⟨g, 0, none⟩)) (hy : a.eval y = .agg (yC 64 K1))
    (h : ∀ w', Blk w' g (rC K1 V d) T → Chg w w' [g] → K' (a.put op.dst undef) w') : op.wp Tryd.prog a w K' Q := by
  refine wp_store_mid 47 x y ho g 0 (yC 64 K1) hx hy ?_ (by rw [yC_size]; exact digInfo) (yC_one 64 _) ?_
  · rw [yC_size]; exact B.there (by rw [rC_size]; omega)
  · exact h _ ((B.setCells 0 _).to (rC_setK K K1 V d)) ((Chg.refl w [g]).setCellsIn (by simp) 0 _)
set_option maxHeartbeats 16000000 in
set_option maxRecDepth 100000 in
theorem stir_r (g : Nat) (K V : Nat → Nat) (d : Nat) (xv : Value) (m : Nat) (f : Nat → Nat) (w : World) (hK : ∀ i, i < 64 → K i < 256) (hV : ∀ i, i < 64 → V i < 256) (BG0 : Blk w g (rC K V d) 76) (hx : SeO g w xv m f) (hm : m ≤ 70368744177000) :
    Calls Tryd.prog 64 #[.pointer (some ⟨g, 0, none⟩), xv] w fun e w' => e = .returned (.tuple #[]) ∧ Chg w w' [g] ∧ Blk w' g (rC (s2K K V m f) (s2V K V m f) d) 76 := by
  obtain ⟨px, cx, rfl⟩ := hx.se.form
  have HX : Hid (SeO g w (.slice px m cx) m f ∧ m ≤ 70368744177000) := ⟨hx, hm⟩
  obtain ⟨K1, hK1⟩ : ∃ z, sk 0 K V m f = z := ⟨_, rfl⟩
  obtain ⟨V1, hV1⟩ : ∃ z, sv 0 K V m f = z := ⟨_, rfl⟩
  obtain ⟨K2, hK2⟩ : ∃ z, sk 1 K1 V1 m f = z := ⟨_, rfl⟩
  obtain ⟨V2, hV2⟩ : ∃ z, sv 1 K1 V1 m f = z := ⟨_, rfl⟩
  have HK1E : Hid (mac 64 K (64 + 1 + m) (cat V 64 (cat (fun _ => 0) 1 f)) = K1) := by show mac _ _ _ _ = K1; rw [← hK1, Nat.add_assoc]; rfl
  have HV1E : Hid (mac 64 K1 64 V = V1) := by show mac _ _ _ _ = V1; rw [← hV1, ← hK1]; rfl
  have HK2E : Hid (mac 64 K1 (64 + 1 + m) (cat V1 64 (cat (fun _ => 1) 1 f)) = K2) := by show mac _ _ _ _ = K2; rw [← hK2, Nat.add_assoc]; rfl
  have HV2E : Hid (mac 64 K2 64 V1 = V2) := by show mac _ _ _ _ = V2; rw [← hV2, ← hK2]; rfl
  have HK : Hid (∀ i, i < 64 → K i < 256) := hK
  have HV : Hid (∀ i, i < 64 → V i < 256) := hV
  have HK1 : Hid (∀ i, i < 64 → K1 i < 256) := fun i _ => by rw [← hK1]; exact sk_lt _ _ _ _ _ _
  have HV1 : Hid (∀ i, i < 64 → V1 i < 256) := fun i _ => by rw [← hV1]; exact sv_lt _ _ _ _ _ _
  have HK2 : Hid (∀ i, i < 64 → K2 i < 256) := fun i _ => by rw [← hK2]; exact sk_lt _ _ _ _ _ _
  have HZ0 : Hid (m = 0 → K1 = s2K K V m f ∧ V1 = s2V K V m f) := fun h => by unfold s2K s2V; rw [if_pos h, if_pos h]; exact ⟨hK1.symm, hV1.symm⟩
  have HZ1 : Hid (¬ m = 0 → K2 = s2K K V m f ∧ V2 = s2V K V m f) := fun h => by unfold s2K s2V; rw [if_neg h, if_neg h, hK1, hV1]; exact ⟨hK2.symm, hV2.symm⟩
  obtain ⟨RK, hRK⟩ : ∃ z, s2K K V m f = z := ⟨_, rfl⟩
  obtain ⟨RV, hRV⟩ : ∃ z, s2V K V m f = z := ⟨_, rfl⟩
  rw [hRK, hRV] at HZ0 HZ1
  rw [hRK, hRV]
  clear hRK hRV
  obtain ⟨ib, hib, hibz, hibs, _⟩ := bytesRow
  obtain ⟨iu, hiu, hiuz, hius, _⟩ := u8Row
  have C0 := Chg.refl w [g]
  clear hx hm hK hV hK1 hV1 hK2 hV2
  go_enter Tryd.func64, Tryd.ntmps64
  go_upto_region 0 with fail
  refine wp_region_held_drew (S := fun w' => Chg w w' [g]) (by kernel_rfl) ((C0).drew) (fun hHeld => ?_)
  refine take_val (v := ?_) 0 (some 4) rfl (by kernel_rfl) (by kernel_rfl) (by kernel_rfl) (fun _ _ _ h => h) rfl rfl (fun w hSw => ?_) hHeld ?_
  rotate_left
  · (go_simp; try with_reducible rfl)
  try simp only [Act.put, List.setIfInBounds_toArray, List.set_cons_zero, List.set_cons_succ]
  refine take_val (v := ?_) 1 (some 5) rfl (by kernel_rfl) (by kernel_rfl) (by kernel_rfl) (fun _ _ _ h => h) rfl rfl (fun w hSw => ?_) hHeld ?_
  rotate_left
  · (go_simp; try with_reducible rfl)
  try simp only [Act.put, List.setIfInBounds_toArray, List.set_cons_zero, List.set_cons_succ]
  refine take_val (v := ?_) 2 (some 6) rfl (by kernel_rfl) (by kernel_rfl) (by kernel_rfl) (fun _ _ _ h => h) rfl rfl (fun w hSw => ?_) hHeld ?_
  rotate_left
  · (go_simp; try with_reducible rfl)
  try simp only [Act.put, List.setIfInBounds_toArray, List.set_cons_zero, List.set_cons_succ]
  refine take_val (v := (.pointer (some ⟨g, 0, none⟩))) 3 (some 7) rfl (by kernel_rfl) (by kernel_rfl) (by kernel_rfl) (fun _ _ _ h => h) rfl rfl (fun w hSw => ?_) hHeld ?_
  · (go_simp; try with_reducible rfl)
  try simp only [Act.put, List.setIfInBounds_toArray, List.set_cons_zero, List.set_cons_succ]
  refine take_val (v := (.slice (some ⟨g, 0, none⟩) 64 64)) 4 (some 8) rfl (by kernel_rfl) (by kernel_rfl) (by kernel_rfl) (fun _ _ _ h => h) rfl rfl (fun w hSw => ?_) hHeld ?_
  · (go_simp; try with_reducible rfl)
  try simp only [Act.put, List.setIfInBounds_toArray, List.set_cons_zero, List.set_cons_succ]
  refine take_val (v := ?_) 5 (some 9) rfl (by kernel_rfl) (by kernel_rfl) (by kernel_rfl) (fun _ _ _ h => h) rfl rfl (fun w hSw => ?_) hHeld ?_
  rotate_left
  · (go_simp; try with_reducible rfl)
  try simp only [Act.put, List.setIfInBounds_toArray, List.set_cons_zero, List.set_cons_succ]
  refine take_val (v := ?_) 6 (some 10) rfl (by kernel_rfl) (by kernel_rfl) (by kernel_rfl) (fun _ _ _ h => h) rfl rfl (fun w hSw => ?_) hHeld ?_
  rotate_left
  · (go_simp; try with_reducible rfl)
  try simp only [Act.put, List.setIfInBounds_toArray, List.set_cons_zero, List.set_cons_succ]
  refine take_val (v := (.pointer (some ⟨g, 64, none⟩))) 7 (some 11) rfl (by kernel_rfl) (by kernel_rfl) (by kernel_rfl) (fun _ _ _ h => h) rfl rfl (fun w hSw => ?_) hHeld ?_
  · (go_simp; try with_reducible rfl)
  try simp only [Act.put, List.setIfInBounds_toArray, List.set_cons_zero, List.set_cons_succ]
  refine take_val (v := (.slice (some ⟨g, 64, none⟩) 64 64)) 8 (some 12) rfl (by kernel_rfl) (by kernel_rfl) (by kernel_rfl) (fun _ _ _ h => h) rfl rfl (fun w hSw => ?_) hHeld ?_
  · (go_simp; try with_reducible rfl)
  try simp only [Act.put, List.setIfInBounds_toArray, List.set_cons_zero, List.set_cons_succ]
  refine take_val (v := ?_) 10 (some 14) rfl (by kernel_rfl) (by kernel_rfl) (by kernel_rfl) (fun _ _ _ h => h) rfl rfl (fun w hSw => ?_) hHeld ?_
  rotate_left
  · (go_simp; try with_reducible rfl)
  try simp only [Act.put, List.setIfInBounds_toArray, List.set_cons_zero, List.set_cons_succ]
  refine wpAnyH_ready (rs := [9]) (by kernel_rfl) (by simp) ?_
  refine AllReadyH.cons (o := _) rfl (fun K' hK => ?_) ?_
  ·
    rw [if_pos (by rfl)]
    refine wp_bsl_o 22 5 1 #[(0, .const (.int .u8 0))] rfl [(0, .int .u8 0)] (by simp [Act.eval]) #[.int .u8 0] iu (.int .u8 0) Tryd.underlying22 hiu hiuz 1 hius (by omega) (by omega) (fillB1 _) ?_
    intro mb v2 hmb BM k2
    change K' (Act.put _ (some 13) _) _
    refine hK.out _ _ (hHeld.trans k2 (by simp)) (fun hHeld => ?_)
    clear hK K'
    try simp only [Act.put, List.setIfInBounds_toArray, List.set_cons_zero, List.set_cons_succ]
    replace BG0 := BG0.drew.chg k2 (by simp)
    clear k2
    refine wpAnyH_ready (rs := [11]) (by kernel_rfl) (by simp) ?_
    refine AllReadyH.cons (o := _) rfl (fun K' hK => ?_) ?_
    ·
      rw [if_pos (by rfl)]
      refine wp_bsl_o 23 22 3 #[(0, .tmp 12), (1, .tmp 13), (2, .tmp 14)] rfl [(0, .slice (some ⟨g, 64, none⟩) 64 64), (1, .slice (some ⟨mb, 0, none⟩) 1 1), (2, .slice px m cx)] (by simp [Act.eval]) #[.slice (some ⟨g, 64, none⟩) 64 64, .slice (some ⟨mb, 0, none⟩) 1 1, .slice px m cx] ib (.slice none 0 0) Tryd.underlying23 hib hibz 1 hibs (by omega) (by omega) (fillS3 _ _ _ _ _ _ _ _ _) ?_
      intro lb v3 hlb BL k3
      change K' (Act.put _ (some 15) _) _
      refine hK.out _ _ (hHeld.trans k3 (by simp)) (fun hHeld => ?_)
      clear hK K'
      try simp only [Act.put, List.setIfInBounds_toArray, List.set_cons_zero, List.set_cons_succ]
      replace BG0 := BG0.chg k3 (by simp)
      replace BM := BM.chg k3 (by simp)
      clear k3
      refine wpAnyH_ready (rs := [12]) (by kernel_rfl) (by simp) ?_
      refine AllReadyH.cons (o := _) rfl (fun K' hK => ?_) ?_
      ·
        go_simp
        have SK := (rC_K BG0 HK.out).sl 64 (by omega) (by omega)
        have SV := (rC_V BG0 HV.out).sl 64 (by omega) (by omega)
        have SM : Sl _ (.slice (some ⟨mb, 0, none⟩) 1 1) 1 (fun _ => 0) := Blk.slT (N := 1) (t := fun _ => 0) BM (fun _ _ => by omega) (by omega)
        refine (MAC_r _ 64 K _ 3 _ _ _ _ (Or.inl SK) (by omega) (Ps.mk3 BL (Or.inl SV) (Or.inl SM) (HX.out.1.chg hHeld).se) (by rw [cN_3]; have := HX.out.2; omega)).mono ?_
        rintro e v4 ⟨rfl, k4⟩
        rw [cN_3, cF_3, catA, HK1E.out]
        go_wp2_with fail
        refine hK.out _ _ (hHeld.trans k4 (by simp)) (fun hHeld => ?_)
        clear hK K'
        try simp only [Act.put, List.setIfInBounds_toArray, List.set_cons_zero, List.set_cons_succ]
        replace BG0 := BG0.chg k4 (by simp)
        clear k4
        refine take_val (v := ?_) 13 (some 17) rfl (by kernel_rfl) (by kernel_rfl) (by kernel_rfl) (fun _ _ _ h => h) rfl rfl (fun w hSw => ?_) hHeld ?_
        rotate_left
        · (go_simp; try with_reducible rfl)
        try simp only [Act.put, List.setIfInBounds_toArray, List.set_cons_zero, List.set_cons_succ]
        refine take_val (v := (.pointer (some ⟨g, 0, none⟩))) 14 (some 18) rfl (by kernel_rfl) (by kernel_rfl) (by kernel_rfl) (fun _ _ _ h => h) rfl rfl (fun w hSw => ?_) hHeld ?_
        · (go_simp; try with_reducible rfl)
        try simp only [Act.put, List.setIfInBounds_toArray, List.set_cons_zero, List.set_cons_succ]
        refine wpAnyH_ready (rs := [15]) (by kernel_rfl) (by simp) ?_
        refine AllReadyH.cons (o := _) rfl (fun K' hK => ?_) ?_
        ·
          rw [if_pos (by rfl)]
          refine wp_store_rK BG0 _ _ rfl K1 rfl rfl ?_
          intro v5 BS0 k5
          refine hK.out _ _ (hHeld.trans1 k5) (fun hHeld => ?_)
          clear hK K'
          try simp only [Act.put, List.setIfInBounds_toArray, List.set_cons_zero, List.set_cons_succ]
          clear k5
          refine wpAnyH_done (by kernel_rfl) ?_ _
          obtain ⟨w5, rfl⟩ : ∃ z, z = v5 := ⟨v5, rfl⟩
          have C5 := hHeld
          have BG5 := BS0
          clear hHeld BS0 BG0 BL BM SK SV SM
          go_upto_region 1 with fail
          refine wp_region_held_drew (S := fun w' => Chg w w' [g]) (by kernel_rfl) ((C5).drew) (fun hHeld => ?_)
          refine take_val (v := ?_) 0 (some 19) rfl (by kernel_rfl) (by kernel_rfl) (by kernel_rfl) (fun _ _ _ h => h) rfl rfl (fun w hSw => ?_) hHeld ?_
          rotate_left
          · (go_simp; try with_reducible rfl)
          try simp only [Act.put, List.setIfInBounds_toArray, List.set_cons_zero, List.set_cons_succ]
          refine take_val (v := ?_) 1 (some 20) rfl (by kernel_rfl) (by kernel_rfl) (by kernel_rfl) (fun _ _ _ h => h) rfl rfl (fun w hSw => ?_) hHeld ?_
          rotate_left
          · (go_simp; try with_reducible rfl)
          try simp only [Act.put, List.setIfInBounds_toArray, List.set_cons_zero, List.set_cons_succ]
          refine take_val (v := ?_) 2 (some 21) rfl (by kernel_rfl) (by kernel_rfl) (by kernel_rfl) (fun _ _ _ h => h) rfl rfl (fun w hSw => ?_) hHeld ?_
          rotate_left
          · (go_simp; try with_reducible rfl)
          try simp only [Act.put, List.setIfInBounds_toArray, List.set_cons_zero, List.set_cons_succ]
          refine take_val (v := (.pointer (some ⟨g, 0, none⟩))) 3 (some 22) rfl (by kernel_rfl) (by kernel_rfl) (by kernel_rfl) (fun _ _ _ h => h) rfl rfl (fun w hSw => ?_) hHeld ?_
          · (go_simp; try with_reducible rfl)
          try simp only [Act.put, List.setIfInBounds_toArray, List.set_cons_zero, List.set_cons_succ]
          refine take_val (v := (.slice (some ⟨g, 0, none⟩) 64 64)) 4 (some 23) rfl (by kernel_rfl) (by kernel_rfl) (by kernel_rfl) (fun _ _ _ h => h) rfl rfl (fun w hSw => ?_) hHeld ?_
          · (go_simp; try with_reducible rfl)
          try simp only [Act.put, List.setIfInBounds_toArray, List.set_cons_zero, List.set_cons_succ]
          refine take_val (v := ?_) 5 (some 24) rfl (by kernel_rfl) (by kernel_rfl) (by kernel_rfl) (fun _ _ _ h => h) rfl rfl (fun w hSw => ?_) hHeld ?_
          rotate_left
          · (go_simp; try with_reducible rfl)
          try simp only [Act.put, List.setIfInBounds_toArray, List.set_cons_zero, List.set_cons_succ]
          refine take_val (v := ?_) 6 (some 25) rfl (by kernel_rfl) (by kernel_rfl) (by kernel_rfl) (fun _ _ _ h => h) rfl rfl (fun w hSw => ?_) hHeld ?_
          rotate_left
          · (go_simp; try with_reducible rfl)
          try simp only [Act.put, List.setIfInBounds_toArray, List.set_cons_zero, List.set_cons_succ]
          refine take_val (v := (.pointer (some ⟨g, 64, none⟩))) 7 (some 26) rfl (by kernel_rfl) (by kernel_rfl) (by kernel_rfl) (fun _ _ _ h => h) rfl rfl (fun w hSw => ?_) hHeld ?_
          · (go_simp; try with_reducible rfl)
          try simp only [Act.put, List.setIfInBounds_toArray, List.set_cons_zero, List.set_cons_succ]
          refine take_val (v := (.slice (some ⟨g, 64, none⟩) 64 64)) 8 (some 27) rfl (by kernel_rfl) (by kernel_rfl) (by kernel_rfl) (fun _ _ _ h => h) rfl rfl (fun w hSw => ?_) hHeld ?_
          · (go_simp; try with_reducible rfl)
          try simp only [Act.put, List.setIfInBounds_toArray, List.set_cons_zero, List.set_cons_succ]
          refine wpAnyH_ready (rs := [9]) (by kernel_rfl) (by simp) ?_
          refine AllReadyH.cons (o := _) rfl (fun K' hK => ?_) ?_
          ·
            rw [if_pos (by rfl)]
            refine wp_bsl_o 23 22 1 #[(0, .tmp 27)] rfl [(0, .slice (some ⟨g, 64, none⟩) 64 64)] (by simp [Act.eval]) #[.slice (some ⟨g, 64, none⟩) 64 64] ib (.slice none 0 0) Tryd.underlying23 hib hibz 1 hibs (by omega) (by omega) (fillS1 _ _ _) ?_
            intro lb v3 hlb BL k3
            change K' (Act.put _ (some 28) _) _
            refine hK.out _ _ (hHeld.trans k3 (by simp)) (fun hHeld => ?_)
            clear hK K'
            try simp only [Act.put, List.setIfInBounds_toArray, List.set_cons_zero, List.set_cons_succ]
            replace BG5 := BG5.drew.chg k3 (by simp)
            clear k3
            refine wpAnyH_ready (rs := [10]) (by kernel_rfl) (by simp) ?_
            refine AllReadyH.cons (o := _) rfl (fun K' hK => ?_) ?_
            ·
              go_simp
              have SK := (rC_K BG5 HK1.out).sl 64 (by omega) (by omega)
              have SV := (rC_V BG5 HV.out).sl 64 (by omega) (by omega)
              refine (MAC_r _ 64 K1 _ 1 _ _ _ _ (Or.inl SK) (by omega) (Ps.mk1 BL (Or.inl SV)) (by rw [cN_1]; omega)).mono ?_
              rintro e v4 ⟨rfl, k4⟩
              rw [cN_1, cF_1, HV1E.out]
              go_wp2_with fail
              refine hK.out _ _ (hHeld.trans k4 (by simp)) (fun hHeld => ?_)
              clear hK K'
              try simp only [Act.put, List.setIfInBounds_toArray, List.set_cons_zero, List.set_cons_succ]
              replace BG5 := BG5.chg k4 (by simp)
              clear k4
              refine take_val (v := ?_) 11 (some 30) rfl (by kernel_rfl) (by kernel_rfl) (by kernel_rfl) (fun _ _ _ h => h) rfl rfl (fun w hSw => ?_) hHeld ?_
              rotate_left
              · (go_simp; try with_reducible rfl)
              try simp only [Act.put, List.setIfInBounds_toArray, List.set_cons_zero, List.set_cons_succ]
              refine take_val (v := (.pointer (some ⟨g, 64, none⟩))) 12 (some 31) rfl (by kernel_rfl) (by kernel_rfl) (by kernel_rfl) (fun _ _ _ h => h) rfl rfl (fun w hSw => ?_) hHeld ?_
              · (go_simp; try with_reducible rfl)
              try simp only [Act.put, List.setIfInBounds_toArray, List.set_cons_zero, List.set_cons_succ]
              refine wpAnyH_ready (rs := [13]) (by kernel_rfl) (by simp) ?_
              refine AllReadyH.cons (o := _) rfl (fun K' hK => ?_) ?_
              ·
                rw [if_pos (by rfl)]
                refine wp_store_rV BG5 _ _ rfl V1 rfl rfl ?_
                intro v5 BS5 k5
                refine hK.out _ _ (hHeld.trans1 k5) (fun hHeld => ?_)
                clear hK K'
                try simp only [Act.put, List.setIfInBounds_toArray, List.set_cons_zero, List.set_cons_succ]
                clear k5
                refine wpAnyH_done (by kernel_rfl) ?_ _
                obtain ⟨w6, rfl⟩ : ∃ z, z = v5 := ⟨v5, rfl⟩
                have C6 := hHeld
                have BG6 := BS5
                clear hHeld BG5 BS5 BL SK SV
                by_cases hz : m = 0
                · have hI : ¬ (0 : Int) < (m : Int) := by omega
                  have e := HZ0.out hz
                  rw [e.1, e.2] at BG6
                  clear hz e HZ0 HZ1
                  go_wp2_with fail
                  go_end0
                  exact ⟨rfl, C6, BG6⟩
                · have hI : (0 : Int) < (m : Int) := by omega
                  have HE : Hid (K2 = RK ∧ V2 = RV) := HZ1.out hz
                  clear hz HZ0 HZ1
                  go_upto_region 3 with fail
                  refine wp_region_held_drew (S := fun w' => Chg w w' [g]) (by kernel_rfl) ((C6).drew) (fun hHeld => ?_)
                  refine take_val (v := ?_) 0 (some 35) rfl (by kernel_rfl) (by kernel_rfl) (by kernel_rfl) (fun _ _ _ h => h) rfl rfl (fun w hSw => ?_) hHeld ?_
                  rotate_left
                  · (go_simp; try with_reducible rfl)
                  try simp only [Act.put, List.setIfInBounds_toArray, List.set_cons_zero, List.set_cons_succ]
                  refine take_val (v := ?_) 1 (some 36) rfl (by kernel_rfl) (by kernel_rfl) (by kernel_rfl) (fun _ _ _ h => h) rfl rfl (fun w hSw => ?_) hHeld ?_
                  rotate_left
                  · (go_simp; try with_reducible rfl)
                  try simp only [Act.put, List.setIfInBounds_toArray, List.set_cons_zero, List.set_cons_succ]
                  refine take_val (v := ?_) 2 (some 37) rfl (by kernel_rfl) (by kernel_rfl) (by kernel_rfl) (fun _ _ _ h => h) rfl rfl (fun w hSw => ?_) hHeld ?_
                  rotate_left
                  · (go_simp; try with_reducible rfl)
                  try simp only [Act.put, List.setIfInBounds_toArray, List.set_cons_zero, List.set_cons_succ]
                  refine take_val (v := (.pointer (some ⟨g, 0, none⟩))) 3 (some 38) rfl (by kernel_rfl) (by kernel_rfl) (by kernel_rfl) (fun _ _ _ h => h) rfl rfl (fun w hSw => ?_) hHeld ?_
                  · (go_simp; try with_reducible rfl)
                  try simp only [Act.put, List.setIfInBounds_toArray, List.set_cons_zero, List.set_cons_succ]
                  refine take_val (v := (.slice (some ⟨g, 0, none⟩) 64 64)) 4 (some 39) rfl (by kernel_rfl) (by kernel_rfl) (by kernel_rfl) (fun _ _ _ h => h) rfl rfl (fun w hSw => ?_) hHeld ?_
                  · (go_simp; try with_reducible rfl)
                  try simp only [Act.put, List.setIfInBounds_toArray, List.set_cons_zero, List.set_cons_succ]
                  refine take_val (v := ?_) 5 (some 40) rfl (by kernel_rfl) (by kernel_rfl) (by kernel_rfl) (fun _ _ _ h => h) rfl rfl (fun w hSw => ?_) hHeld ?_
                  rotate_left
                  · (go_simp; try with_reducible rfl)
                  try simp only [Act.put, List.setIfInBounds_toArray, List.set_cons_zero, List.set_cons_succ]
                  refine take_val (v := ?_) 6 (some 41) rfl (by kernel_rfl) (by kernel_rfl) (by kernel_rfl) (fun _ _ _ h => h) rfl rfl (fun w hSw => ?_) hHeld ?_
                  rotate_left
                  · (go_simp; try with_reducible rfl)
                  try simp only [Act.put, List.setIfInBounds_toArray, List.set_cons_zero, List.set_cons_succ]
                  refine take_val (v := (.pointer (some ⟨g, 64, none⟩))) 7 (some 42) rfl (by kernel_rfl) (by kernel_rfl) (by kernel_rfl) (fun _ _ _ h => h) rfl rfl (fun w hSw => ?_) hHeld ?_
                  · (go_simp; try with_reducible rfl)
                  try simp only [Act.put, List.setIfInBounds_toArray, List.set_cons_zero, List.set_cons_succ]
                  refine take_val (v := (.slice (some ⟨g, 64, none⟩) 64 64)) 8 (some 43) rfl (by kernel_rfl) (by kernel_rfl) (by kernel_rfl) (fun _ _ _ h => h) rfl rfl (fun w hSw => ?_) hHeld ?_
                  · (go_simp; try with_reducible rfl)
                  try simp only [Act.put, List.setIfInBounds_toArray, List.set_cons_zero, List.set_cons_succ]
                  refine take_val (v := ?_) 10 (some 45) rfl (by kernel_rfl) (by kernel_rfl) (by kernel_rfl) (fun _ _ _ h => h) rfl rfl (fun w hSw => ?_) hHeld ?_
                  rotate_left
                  · (go_simp; try with_reducible rfl)
                  try simp only [Act.put, List.setIfInBounds_toArray, List.set_cons_zero, List.set_cons_succ]
                  refine wpAnyH_ready (rs := [9]) (by kernel_rfl) (by simp) ?_
                  refine AllReadyH.cons (o := _) rfl (fun K' hK => ?_) ?_
                  ·
                    rw [if_pos (by rfl)]
                    refine wp_bsl_o 22 5 1 #[(0, .const (.int .u8 1))] rfl [(0, .int .u8 1)] (by simp [Act.eval]) #[.int .u8 1] iu (.int .u8 0) Tryd.underlying22 hiu hiuz 1 hius (by omega) (by omega) (fillB1 _) ?_
                    intro mb v2 hmb BM k2
                    change K' (Act.put _ (some 44) _) _
                    refine hK.out _ _ (hHeld.trans k2 (by simp)) (fun hHeld => ?_)
                    clear hK K'
                    try simp only [Act.put, List.setIfInBounds_toArray, List.set_cons_zero, List.set_cons_succ]
                    replace BG6 := BG6.drew.chg k2 (by simp)
                    clear k2
                    refine wpAnyH_ready (rs := [11]) (by kernel_rfl) (by simp) ?_
                    refine AllReadyH.cons (o := _) rfl (fun K' hK => ?_) ?_
                    ·
                      rw [if_pos (by rfl)]
                      refine wp_bsl_o 23 22 3 #[(0, .tmp 43), (1, .tmp 44), (2, .tmp 45)] rfl [(0, .slice (some ⟨g, 64, none⟩) 64 64), (1, .slice (some ⟨mb, 0, none⟩) 1 1), (2, .slice px m cx)] (by simp [Act.eval]) #[.slice (some ⟨g, 64, none⟩) 64 64, .slice (some ⟨mb, 0, none⟩) 1 1, .slice px m cx] ib (.slice none 0 0) Tryd.underlying23 hib hibz 1 hibs (by omega) (by omega) (fillS3 _ _ _ _ _ _ _ _ _) ?_
                      intro lb v3 hlb BL k3
                      change K' (Act.put _ (some 46) _) _
                      refine hK.out _ _ (hHeld.trans k3 (by simp)) (fun hHeld => ?_)
                      clear hK K'
                      try simp only [Act.put, List.setIfInBounds_toArray, List.set_cons_zero, List.set_cons_succ]
                      replace BG6 := BG6.chg k3 (by simp)
                      replace BM := BM.chg k3 (by simp)
                      clear k3
                      refine wpAnyH_ready (rs := [12]) (by kernel_rfl) (by simp) ?_
                      refine AllReadyH.cons (o := _) rfl (fun K' hK => ?_) ?_
                      ·
                        go_simp
                        have SK := (rC_K BG6 HK1.out).sl 64 (by omega) (by omega)
                        have SV := (rC_V BG6 HV1.out).sl 64 (by omega) (by omega)
                        have SM : Sl _ (.slice (some ⟨mb, 0, none⟩) 1 1) 1 (fun _ => 1) := Blk.slT (N := 1) (t := fun _ => 1) BM (fun _ _ => by omega) (by omega)
                        refine (MAC_r _ 64 K1 _ 3 _ _ _ _ (Or.inl SK) (by omega) (Ps.mk3 BL (Or.inl SV) (Or.inl SM) (HX.out.1.chg hHeld).se) (by rw [cN_3]; have := HX.out.2; omega)).mono ?_
                        rintro e v4 ⟨rfl, k4⟩
                        rw [cN_3, cF_3, catA, HK2E.out]
                        go_wp2_with fail
                        refine hK.out _ _ (hHeld.trans k4 (by simp)) (fun hHeld => ?_)
                        clear hK K'
                        try simp only [Act.put, List.setIfInBounds_toArray, List.set_cons_zero, List.set_cons_succ]
                        replace BG6 := BG6.chg k4 (by simp)
                        clear k4
                        refine take_val (v := ?_) 13 (some 48) rfl (by kernel_rfl) (by kernel_rfl) (by kernel_rfl) (fun _ _ _ h => h) rfl rfl (fun w hSw => ?_) hHeld ?_
                        rotate_left
                        · (go_simp; try with_reducible rfl)
                        try simp only [Act.put, List.setIfInBounds_toArray, List.set_cons_zero, List.set_cons_succ]
                        refine take_val (v := (.pointer (some ⟨g, 0, none⟩))) 14 (some 49) rfl (by kernel_rfl) (by kernel_rfl) (by kernel_rfl) (fun _ _ _ h => h) rfl rfl (fun w hSw => ?_) hHeld ?_
                        · (go_simp; try with_reducible rfl)
                        try simp only [Act.put, List.setIfInBounds_toArray, List.set_cons_zero, List.set_cons_succ]
                        refine wpAnyH_ready (rs := [15]) (by kernel_rfl) (by simp) ?_
                        refine AllReadyH.cons (o := _) rfl (fun K' hK => ?_) ?_
                        ·
                          rw [if_pos (by rfl)]
                          refine wp_store_rK BG6 _ _ rfl K2 rfl rfl ?_
                          intro v5 BS6 k5
                          refine hK.out _ _ (hHeld.trans1 k5) (fun hHeld => ?_)
                          clear hK K'
                          try simp only [Act.put, List.setIfInBounds_toArray, List.set_cons_zero, List.set_cons_succ]
                          clear k5
                          refine wpAnyH_done (by kernel_rfl) ?_ _
                          obtain ⟨w7, rfl⟩ : ∃ z, z = v5 := ⟨v5, rfl⟩
                          have C7 := hHeld
                          have BG7 := BS6
                          clear hHeld BS6 BG6 BL BM SK SV SM
                          go_upto_region 4 with fail
                          refine wp_region_held_drew (S := fun w' => Chg w w' [g]) (by kernel_rfl) ((C7).drew) (fun hHeld => ?_)
                          refine take_val (v := ?_) 0 (some 50) rfl (by kernel_rfl) (by kernel_rfl) (by kernel_rfl) (fun _ _ _ h => h) rfl rfl (fun w hSw => ?_) hHeld ?_
                          rotate_left
                          · (go_simp; try with_reducible rfl)
                          try simp only [Act.put, List.setIfInBounds_toArray, List.set_cons_zero, List.set_cons_succ]
                          refine take_val (v := ?_) 1 (some 51) rfl (by kernel_rfl) (by kernel_rfl) (by kernel_rfl) (fun _ _ _ h => h) rfl rfl (fun w hSw => ?_) hHeld ?_
                          rotate_left
                          · (go_simp; try with_reducible rfl)
                          try simp only [Act.put, List.setIfInBounds_toArray, List.set_cons_zero, List.set_cons_succ]
                          refine take_val (v := ?_) 2 (some 52) rfl (by kernel_rfl) (by kernel_rfl) (by kernel_rfl) (fun _ _ _ h => h) rfl rfl (fun w hSw => ?_) hHeld ?_
                          rotate_left
                          · (go_simp; try with_reducible rfl)
                          try simp only [Act.put, List.setIfInBounds_toArray, List.set_cons_zero, List.set_cons_succ]
                          refine take_val (v := (.pointer (some ⟨g, 0, none⟩))) 3 (some 53) rfl (by kernel_rfl) (by kernel_rfl) (by kernel_rfl) (fun _ _ _ h => h) rfl rfl (fun w hSw => ?_) hHeld ?_
                          · (go_simp; try with_reducible rfl)
                          try simp only [Act.put, List.setIfInBounds_toArray, List.set_cons_zero, List.set_cons_succ]
                          refine take_val (v := (.slice (some ⟨g, 0, none⟩) 64 64)) 4 (some 54) rfl (by kernel_rfl) (by kernel_rfl) (by kernel_rfl) (fun _ _ _ h => h) rfl rfl (fun w hSw => ?_) hHeld ?_
                          · (go_simp; try with_reducible rfl)
                          try simp only [Act.put, List.setIfInBounds_toArray, List.set_cons_zero, List.set_cons_succ]
                          refine take_val (v := ?_) 5 (some 55) rfl (by kernel_rfl) (by kernel_rfl) (by kernel_rfl) (fun _ _ _ h => h) rfl rfl (fun w hSw => ?_) hHeld ?_
                          rotate_left
                          · (go_simp; try with_reducible rfl)
                          try simp only [Act.put, List.setIfInBounds_toArray, List.set_cons_zero, List.set_cons_succ]
                          refine take_val (v := ?_) 6 (some 56) rfl (by kernel_rfl) (by kernel_rfl) (by kernel_rfl) (fun _ _ _ h => h) rfl rfl (fun w hSw => ?_) hHeld ?_
                          rotate_left
                          · (go_simp; try with_reducible rfl)
                          try simp only [Act.put, List.setIfInBounds_toArray, List.set_cons_zero, List.set_cons_succ]
                          refine take_val (v := (.pointer (some ⟨g, 64, none⟩))) 7 (some 57) rfl (by kernel_rfl) (by kernel_rfl) (by kernel_rfl) (fun _ _ _ h => h) rfl rfl (fun w hSw => ?_) hHeld ?_
                          · (go_simp; try with_reducible rfl)
                          try simp only [Act.put, List.setIfInBounds_toArray, List.set_cons_zero, List.set_cons_succ]
                          refine take_val (v := (.slice (some ⟨g, 64, none⟩) 64 64)) 8 (some 58) rfl (by kernel_rfl) (by kernel_rfl) (by kernel_rfl) (fun _ _ _ h => h) rfl rfl (fun w hSw => ?_) hHeld ?_
                          · (go_simp; try with_reducible rfl)
                          try simp only [Act.put, List.setIfInBounds_toArray, List.set_cons_zero, List.set_cons_succ]
                          refine wpAnyH_ready (rs := [9]) (by kernel_rfl) (by simp) ?_
                          refine AllReadyH.cons (o := _) rfl (fun K' hK => ?_) ?_
                          ·
                            rw [if_pos (by rfl)]
                            refine wp_bsl_o 23 22 1 #[(0, .tmp 58)] rfl [(0, .slice (some ⟨g, 64, none⟩) 64 64)] (by simp [Act.eval]) #[.slice (some ⟨g, 64, none⟩) 64 64] ib (.slice none 0 0) Tryd.underlying23 hib hibz 1 hibs (by omega) (by omega) (fillS1 _ _ _) ?_
                            intro lb v3 hlb BL k3
                            change K' (Act.put _ (some 59) _) _
                            refine hK.out _ _ (hHeld.trans k3 (by simp)) (fun hHeld => ?_)
                            clear hK K'
                            try simp only [Act.put, List.setIfInBounds_toArray, List.set_cons_zero, List.set_cons_succ]
                            replace BG7 := BG7.drew.chg k3 (by simp)
                            clear k3
                            refine wpAnyH_ready (rs := [10]) (by kernel_rfl) (by simp) ?_
                            refine AllReadyH.cons (o := _) rfl (fun K' hK => ?_) ?_
                            ·
                              go_simp
                              have SK := (rC_K BG7 HK2.out).sl 64 (by omega) (by omega)
                              have SV := (rC_V BG7 HV1.out).sl 64 (by omega) (by omega)
                              refine (MAC_r _ 64 K2 _ 1 _ _ _ _ (Or.inl SK) (by omega) (Ps.mk1 BL (Or.inl SV)) (by rw [cN_1]; omega)).mono ?_
                              rintro e v4 ⟨rfl, k4⟩
                              rw [cN_1, cF_1, HV2E.out]
                              go_wp2_with fail
                              refine hK.out _ _ (hHeld.trans k4 (by simp)) (fun hHeld => ?_)
                              clear hK K'
                              try simp only [Act.put, List.setIfInBounds_toArray, List.set_cons_zero, List.set_cons_succ]
                              replace BG7 := BG7.chg k4 (by simp)
                              clear k4
                              refine take_val (v := ?_) 11 (some 61) rfl (by kernel_rfl) (by kernel_rfl) (by kernel_rfl) (fun _ _ _ h => h) rfl rfl (fun w hSw => ?_) hHeld ?_
                              rotate_left
                              · (go_simp; try with_reducible rfl)
                              try simp only [Act.put, List.setIfInBounds_toArray, List.set_cons_zero, List.set_cons_succ]
                              refine take_val (v := (.pointer (some ⟨g, 64, none⟩))) 12 (some 62) rfl (by kernel_rfl) (by kernel_rfl) (by kernel_rfl) (fun _ _ _ h => h) rfl rfl (fun w hSw => ?_) hHeld ?_
                              · (go_simp; try with_reducible rfl)
                              try simp only [Act.put, List.setIfInBounds_toArray, List.set_cons_zero, List.set_cons_succ]
                              refine wpAnyH_ready (rs := [13]) (by kernel_rfl) (by simp) ?_
                              refine AllReadyH.cons (o := _) rfl (fun K' hK => ?_) ?_
                              ·
                                rw [if_pos (by rfl)]
                                refine wp_store_rV BG7 _ _ rfl V2 rfl rfl ?_
                                intro v5 BS7 k5
                                refine hK.out _ _ (hHeld.trans1 k5) (fun hHeld => ?_)
                                clear hK K'
                                try simp only [Act.put, List.setIfInBounds_toArray, List.set_cons_zero, List.set_cons_succ]
                                clear k5
                                refine wpAnyH_done (by kernel_rfl) ?_ _
                                obtain ⟨w8, rfl⟩ : ∃ z, z = v5 := ⟨v5, rfl⟩
                                have C8 := hHeld
                                have B8 := BS7
                                rw [HE.out.1, HE.out.2] at B8
                                clear hHeld
                                go_wp2_with fail
                                go_end0
                                exact ⟨rfl, C8, B8⟩
                              exact AllReadyH.nil
                            exact AllReadyH.nil
                          exact AllReadyH.nil
                        exact AllReadyH.nil
                      exact AllReadyH.nil
                    exact AllReadyH.nil
                  exact AllReadyH.nil
              exact AllReadyH.nil
            exact AllReadyH.nil
          exact AllReadyH.nil
        exact AllReadyH.nil
      exact AllReadyH.nil
    exact AllReadyH.nil
  exact AllReadyH.nil
end Go.Proofs.YthpfdnkcepfbaaaDoor
