/- DrbgTwins: two generators made and asked alike answer alike. -/
import Derived.Test.YthpfdnkcepfbaaaDoorDr12
set_option linter.unusedVariables false
set_option linter.unusedSimpArgs false
set_option linter.unnecessarySimpa false
namespace Go.Proofs.YthpfdnkcepfbaaaDoor
open Go.RowKit

/-- K steps in memory: a number, a number, bytes, bytes each. -/
def St4 (w : World) (v : Value) (N : Nat) (wh nn : Nat → Int) (bv : Nat → Value) (bn : Nat → Nat) (bf : Nat → Nat → Nat) (ev : Nat → Value) (en : Nat → Nat) (ef : Nat → Nat → Nat) : Prop :=
  (∀ i, i < N → Se w (bv i) (bn i) (bf i) ∧ Se w (ev i) (en i) (ef i)) ∧ ((N = 0 ∧ v = .slice none 0 0) ∨ ∃ g o cap, v = .slice (some ⟨g, o, none⟩) N cap ∧ N ≤ cap ∧ cap ≤ 9223372036854775807 ∧ g < w.heap.size ∧
    ∀ i, i < N → w.cell? ⟨g, o + i * 4, none⟩ = some (.int .i64 (wh i)) ∧ w.cell? ⟨g, o + i * 4 + 1, none⟩ = some (.int .i64 (nn i)) ∧ w.cell? ⟨g, o + i * 4 + 2, none⟩ = some (bv i) ∧ w.cell? ⟨g, o + i * 4 + 3, none⟩ = some (ev i))
/-- .. where they lie. -/
def St5 (w : World) (g o N : Nat) (wh nn : Nat → Int) (bv ev : Nat → Value) : Prop := g < w.heap.size ∧ ∀ i, i < N → w.cell? ⟨g, o + i * 4, none⟩ = some (.int .i64 (wh i)) ∧ w.cell? ⟨g, o + i * 4 + 1, none⟩ = some (.int .i64 (nn i)) ∧ w.cell? ⟨g, o + i * 4 + 2, none⟩ = some (bv i) ∧ w.cell? ⟨g, o + i * 4 + 3, none⟩ = some (ev i)
theorem St5.cells {w w' : World} {g o N : Nat} {wh nn : Nat → Int} {bv ev : Nat → Value} (h : St5 w g o N wh nn bv ev) (c : Chg w w' []) {i : Nat} (hi : i < N) : w'.cell? ⟨g, o + i * 4, none⟩ = some (.int .i64 (wh i)) ∧ w'.cell? ⟨g, o + i * 4 + 1, none⟩ = some (.int .i64 (nn i)) ∧ w'.cell? ⟨g, o + i * 4 + 2, none⟩ = some (bv i) ∧ w'.cell? ⟨g, o + i * 4 + 3, none⟩ = some (ev i) := by
  have e := c.block g h.1 (by simp)
  have q : ∀ x, w'.cell? ⟨g, x, none⟩ = w.cell? ⟨g, x, none⟩ := fun x => by simp only [World.cell?, e]
  rw [q, q, q, q]
  exact h.2 i hi
theorem ZS.lt {w : World} {zv : Value} (h : ZS w zv) (b : Nat) (hb : b ∈ zb zv) : b < w.heap.size := by
  rcases h with rfl | ⟨g, K, V, d, rfl, _, _, _, h4⟩
  · simp [zb] at hb
  · simp [zb] at hb; subst hb; exact h4.lt
set_option maxHeartbeats 32000000 in
set_option maxRecDepth 100000 in
theorem twins_walk (v0 v1 v2 : Value) (n0 : Nat) (f0 : Nat → Nat) (n1 : Nat) (f1 : Nat → Nat) (N : Nat) (wh nn : Nat → Int) (bv : Nat → Value) (bn : Nat → Nat) (bf : Nat → Nat → Nat) (ev : Nat → Value) (en : Nat → Nat) (ef : Nat → Nat → Nat) (w : World) (hG : Gl w) (h0 : Se w v0 n0 f0) (h1 : Se w v1 n1 f1) (hs : St4 w v2 N wh nn bv bn bf ev en ef) :
    Calls Tryd.prog 6 #[v0, v1, v2] w fun e w' => e = .returned (.bool true) ∧ Chg w w' [] := by
  have H0 : Hid (Se w v0 n0 f0 ∧ n0 < 9223372036854775808) := ⟨h0, h0.le⟩
  have H1 : Hid (Se w v1 n1 f1) := h1
  have HG : Hid (Gl w) := hG
  have HGL : Hid (1 < w.heap.size) := hG.lt
  obtain ⟨p0, c0, rfl⟩ := h0.form
  obtain ⟨sp, sc, rfl⟩ : ∃ p c, v2 = .slice p N c := by
    rcases hs.2 with ⟨rfl, rfl⟩ | ⟨g, o, c, rfl, _⟩
    · exact ⟨_, _, rfl⟩
    · exact ⟨_, _, rfl⟩
  have hNB : N ≤ 9223372036854775807 := by
    rcases hs.2 with ⟨rfl, _⟩ | ⟨g, o, c, _, h1, h2, _⟩ <;> omega
  have HS0 : Hid (St4 w (.slice sp N sc) N wh nn bv bn bf ev en ef) := hs
  clear h0 h1 hG hs
  go_enter Tryd.func6, Tryd.ntmps6
  go_wp2_with fail
  refine (aliveD_s w HG.out).mono ?_
  rintro e w1 ⟨rfl, k1⟩
  by_cases hn : n0 < 32
  · have hI : (n0 : Int) < 32 := by omega
    have HN : Hid (n0 < 32) := hn
    clear hn
    go_wp2_with fail
    refine (New_no _ _ _ n0 f0 w1 (H0.out.1.chg k1) HN.out).mono ?_
    rintro e w2 ⟨rfl, rfl⟩
    go_wp2_with fail
    refine (New_no _ _ _ n0 f0 w2 (H0.out.1.chg k1) HN.out).mono ?_
    rintro e w3 ⟨rfl, rfl⟩
    go_wp2_with fail
    refine (New_z v1 n1 f1 w3 (HG.out.chg k1 (by simp) (by simp)) (H1.out.chg k1)).mono ?_
    rintro e w4 ⟨zv, en, rfl, _, _, k4⟩
    go_wp2_with fail
    refine (num_s 111 w4).mono ?_
    rintro e w5 ⟨rfl, rfl⟩
    go_wp2_with fail
    go_ret
    exact ⟨by simp, k1.trans1 k4⟩
  · have HN : Hid (32 ≤ n0) := by show 32 ≤ n0; omega
    clear hn
    go_wp2_with fail
    refine (New_ok _ _ _ n0 0 0 f0 (fun _ => 0) (fun _ => 0) w1 (HG.out.chg k1 (by simp) (by simp)) (H0.out.1.chg k1) (se_nil _ _) (se_nil _ _) HN.out (by have := H0.out.2; omega)).mono ?_
    rintro e w2 ⟨gx, rfl, hgx, k2, Bx⟩
    have C2 := k1.trans1 k2
    go_wp2_with fail
    refine (New_ok _ _ _ n0 0 0 f0 (fun _ => 0) (fun _ => 0) w2 (HG.out.chg C2 (by simp) (by simp)) (H0.out.1.chg C2) (se_nil _ _) (se_nil _ _) HN.out (by have := H0.out.2; omega)).mono ?_
    rintro e w3 ⟨gy, rfl, hgy, k3, By⟩
    obtain ⟨KN, hKN⟩ : ∃ z, nK n0 0 0 f0 (fun _ => 0) (fun _ => 0) = z := ⟨_, rfl⟩
    obtain ⟨VX, hVX⟩ : ∃ z, nV n0 0 0 f0 (fun _ => 0) (fun _ => 0) = z := ⟨_, rfl⟩
    have HKN : Hid (L64 KN ∧ L64 VX) := ⟨by intro i _; rw [← hKN]; exact s2K_lt _ _ _ _ _, by intro i _; rw [← hVX]; exact s2V_lt _ _ _ _ _⟩
    rw [hKN, hVX] at Bx By
    clear hKN hVX
    have HNE : Hid (gx < gy) := Nat.lt_of_lt_of_le Bx.lt hgy
    have Bx3 := Bx.chg k3 (by simp)
    have C3 := C2.trans1 k3
    have HX : Hid (w.heap.size ≤ gx) := Nat.le_trans k1.size hgx
    have HY : Hid (w.heap.size ≤ gy) := Nat.le_trans C2.size hgy
    have HP : Hid (2 ≤ gx ∧ 2 ≤ gy) := ⟨by have := HGL.out; have := HX.out; omega, by have := HGL.out; have := HY.out; omega⟩
    have HXL : Hid (gx < w3.heap.size ∧ gy < w3.heap.size) := ⟨Bx3.lt, By.lt⟩
    clear k1 k2 k3 C2 Bx hgx hgy
    go_wp2_with fail
    refine (New_z v1 n1 f1 w3 (HG.out.chg C3 (by simp) (by simp)) (H1.out.chg C3)).mono ?_
    rintro e w4 ⟨zv, zn, rfl, Z4, hz4, k4⟩
    have Bx4 := Bx3.chg k4 (by simp)
    have By4 := By.chg k4 (by simp)
    have C4 := C3.trans1 k4
    have HZX : Hid (∀ b, b ∈ zb zv → ¬ b ∈ [gx]) := fun b hb => by have := hz4 b hb; have := HXL.out; simp; omega
    have HZY : Hid (∀ b, b ∈ zb zv → ¬ b ∈ [gy]) := fun b hb => by have := hz4 b hb; have := HXL.out; simp; omega
    have HZP : Hid (∀ b, b ∈ zb zv → w.heap.size ≤ b ∧ 2 ≤ b) := fun b hb => by have := hz4 b hb; have := C3.size; have := HGL.out; exact ⟨by omega, by omega⟩
    have HXY : Hid (∀ b, b ∈ [gx, gy] → b ∈ ([] : List Nat) ∨ w.heap.size ≤ b) := fun b hb => by
      have hb' : b = gx ∨ b = gy := by simpa using hb
      rcases hb' with rfl | rfl
      · exact Or.inr HX.out
      · exact Or.inr HY.out
    clear k4 C3 Bx3 By hz4 HXL
    go_wp2_with fail
    go_loopw [13] (fun t wr => ∃ (i : Nat) (Ka Va : Nat → Nat) (da : Nat), i ≤ N ∧ t = .int .i64 (i : Int) ∧ L64 Ka ∧ L64 Va ∧ da ≤ 4096 ∧ Blk wr gx (gC Ka Va da) 141 ∧ Blk wr gy (gC Ka Va da) 141 ∧ ZS wr zv ∧ Chg w wr []) (fun t _ => ((N : Int) - intOf t).toNat)
    case atStart => exact ⟨0, KN, VX, 0, Nat.zero_le _, rfl, HKN.out.1, HKN.out.2, by omega, Bx4, By4, Z4, C4⟩
    case round =>
      clear Bx4 By4 Z4 C4
      obtain ⟨i, Ka, Va, da, hi, rfl, hKa, hVa, hda, Bx, By, Z0, C0⟩ := hrel
      have HK : Hid (L64 Ka ∧ L64 Va ∧ da ≤ 4096) := ⟨hKa, hVa, hda⟩
      clear hKa hVa hda
      by_cases h8 : i < N
      · have hI : (i : Int) < (N : Int) := by omega
        have hI0 : (0 : Int) ≤ (i : Int) := by omega
        have e1 : IntKind.i64.wrap ((i : Int) + 1) = (i : Int) + 1 := by rw [IntKind.wrap_i64]; omega
        have HI : Hid (i < N) := h8
        have HI2 : Hid (i + 1 ≤ N) := by show i + 1 ≤ N; omega
        have HSB : Hid (Se w (bv i) (bn i) (bf i)) := (HS0.out.1 i h8).1
        have HSE : Hid (Se w (ev i) (en i) (ef i)) := (HS0.out.1 i h8).2
        rcases HS0.out.2 with ⟨hz, _⟩ | ⟨sg, so, cap, he, _, _, hsg, hcl⟩
        · omega
        simp only [Value.slice.injEq] at he
        obtain ⟨rfl, _, rfl⟩ := he
        have HS : Hid (St5 w sg so N wh nn bv ev) := ⟨hsg, hcl⟩
        clear hcl hsg h8 hi
        by_cases h2 : 2000 < nn i
        · have h2' : (2000 : Int) < nn i := h2
          clear h2
          have q := fun (g : Nat) (W : World) (hG : Gl W) (hg : 2 ≤ g) (B : Blk W g (gC Ka Va da) 141) (hev : SeO g W (ev i) (en i) (ef i)) => Draw_a g Ka Va da 2000 (ev i) (en i) (ef i) W hG hg HK.out.1 HK.out.2.1 HK.out.2.2 B hev
          have l1 := aK_lt HK.out.1 (V := Va) da 2000 (en i) (ef i)
          have l2 := aV_lt HK.out.2.1 (K := Ka) da 2000 (en i) (ef i)
          have l3 := aD_le (n := 2000) HK.out.2.2
          obtain ⟨E, hE⟩ : ∃ z, rfs 2000 da = z := ⟨_, rfl⟩
          obtain ⟨A, hA⟩ : ∃ z, aN 2000 da = z := ⟨_, rfl⟩
          obtain ⟨F, hF⟩ : ∃ z, dO Ka Va (en i) (ef i) = z := ⟨_, rfl⟩
          obtain ⟨K2, hK2⟩ : ∃ z, aK Ka Va da 2000 (en i) (ef i) = z := ⟨_, rfl⟩
          obtain ⟨V2, hV2⟩ : ∃ z, aV Ka Va da 2000 (en i) (ef i) = z := ⟨_, rfl⟩
          obtain ⟨d2, hd2⟩ : ∃ z, aD 2000 da = z := ⟨_, rfl⟩
          rw [hK2] at l1
          rw [hV2] at l2
          rw [hd2] at l3
          simp only [hE, hA, hF, hK2, hV2, hd2] at q
          have HQ : Hid (_ ∧ True) := ⟨q, trivial⟩
          have HK2 : Hid (L64 K2 ∧ L64 V2 ∧ d2 ≤ 4096) := ⟨l1, l2, l3⟩
          clear q hE hA hF hK2 hV2 hd2 l1 l2 l3
          have cs := HS.out.cells C0 HI.out
          have cy1 := cs.2.1
          have cy3 := cs.2.2.2
          clear cs
          go_wp2_with fail
          refine (HQ.out.1 gx wr (HG.out.chg C0 (by simp) (by simp)) HP.out.1 Bx ((HSE.out.seo HX.out).chg (C0.wide (l := [gx])))).mono ?_
          rintro e w1 ⟨va, rfl, S1, N1, k1, Bx1⟩
          have HSZ : Hid (gx < wr.heap.size ∧ gy < wr.heap.size ∧ ∀ b, b ∈ zb zv → b < wr.heap.size) := ⟨Bx.lt, By.lt, fun b hb => Z0.lt b hb⟩
          have By1 := By.chg k1 (by have := HNE.out; simp; omega)
          have Z1 := Z0.chg k1 (fun b hb => HZX.out b hb)
          have C1 := C0.new k1 HX.out
          have HV1 : Hid (VN va wr.heap.size) := N1
          clear cy1 cy3 k1 C0 Bx By Z0 N1
          have cs := HS.out.cells C1 HI.out
          have cy2 := cs.2.2.1
          clear cs
          go_wp2_with fail
          refine (Draw_z zv 1 (bv i) (bn i) (bf i) w1 (HG.out.chg C1 (by simp) (by simp)) Z1 (fun b hb => ⟨(HZP.out b hb).2, (HSB.out.seo (HZP.out b hb).1).chg (C1.wide (l := [b]))⟩)).mono ?_
          rintro e w2 ⟨rz, rfl, Z2, k2⟩
          have Bx2 := Bx1.chg k2 (fun hb => HZX.out gx hb (by simp))
          have By2 := By1.chg k2 (fun hb => HZY.out gy hb (by simp))
          have S2 := S1.chg k2 (fun g o n c he hx => by have := HV1.out g o n c he; have := HSZ.out.2.2 g hx; omega)
          have C2 := C1.trans k2 (fun b hb => Or.inr (HZP.out b hb).1)
          clear cy2 k2 C1 Bx1 By1 Z1 S1
          have cs := HS.out.cells C2 HI.out
          have cy3 := cs.2.2.2
          clear cs
          go_wp2_with fail
          refine (HQ.out.1 gy w2 (HG.out.chg C2 (by simp) (by simp)) HP.out.2 By2 ((HSE.out.seo HY.out).chg (C2.wide (l := [gy])))).mono ?_
          rintro e w3 ⟨vb, rfl, S3, N3, k3, By3⟩
          have Bx3 := Bx2.chg k3 (by have := HNE.out; simp; omega)
          have Z3 := Z2.chg k3 (fun b hb => HZY.out b hb)
          have SA := S2.chg k3 (HV1.out.off HSZ.out.2.1)
          have C3 := C2.new k3 HY.out
          clear cy3 k3 C2 Bx2 By2 Z2 S2 N3
          go_wp2_with fail
          refine (SameBytes_sl va vb A F w3 SA S3).mono ?_
          rintro e w4 ⟨rfl, k4⟩
          have Bx4 := Bx3.chg k4 (by simp)
          have By4 := By3.chg k4 (by simp)
          have Z4 := Z3.chg k4 (by simp)
          have C4 := C3.trans1 k4
          clear k4 C3 Bx3 By3 Z3 SA S3 HV1 HSZ HQ
          go_upto_region 21 with fail
          by_cases hw1 : wh i = 1
          · have HW1 : Hid (wh i = 1) := hw1
            have q := fun (g : Nat) (W : World) (hG : Gl W) (hg : 2 ≤ g) (B : Blk W g (gC K2 V2 d2) 141) (h0 : SeO g W (bv i) (bn i) (bf i)) => Reseed_a g K2 V2 d2 (bv i) (bn i) (bf i) W hG hg HK2.out.1 HK2.out.2.1 B h0
            have l1 := sK_lt HK2.out.1 (V := V2) (bn i) (bf i)
            have l2 := sV_lt HK2.out.2.1 (K := K2) (bn i) (bf i)
            have l3 := sD_le HK2.out.2.2 (bn i)
            obtain ⟨E3, hE⟩ : ∃ z, sE (bn i) = z := ⟨_, rfl⟩
            obtain ⟨K3, hK3⟩ : ∃ z, sK K2 V2 (bn i) (bf i) = z := ⟨_, rfl⟩
            obtain ⟨V3, hV3⟩ : ∃ z, sV K2 V2 (bn i) (bf i) = z := ⟨_, rfl⟩
            obtain ⟨d3, hd3⟩ : ∃ z, sD d2 (bn i) = z := ⟨_, rfl⟩
            rw [hK3] at l1
            rw [hV3] at l2
            rw [hd3] at l3
            simp only [hE, hK3, hV3, hd3] at q
            have HR : Hid (∀ (g : Nat) (W : World), Gl W → 2 ≤ g → Blk W g (gC K2 V2 d2) 141 → SeO g W (bv i) (bn i) (bf i) → Calls Tryd.prog 24 #[.pointer (some ⟨g, 0, none⟩), bv i, .slice none 0 0] W fun e w' => e = .returned (.int .i64 E3) ∧ Chg W w' [g] ∧ Blk w' g (gC K3 V3 d3) 141) := q
            have HK3 : Hid (L64 K3 ∧ L64 V3 ∧ d3 ≤ 4096) := ⟨l1, l2, l3⟩
            clear q hE hK3 hV3 hd3 l1 l2 l3 hw1
            refine wp_region_held_drew (S := fun w' => Chg w4 w' [gx, gy]) (by kernel_rfl) ((Chg.refl w4 _).drew) (fun hHeld => ?_)
            refine take_val (v := ?_) 0 (some 107) rfl (by kernel_rfl) (by kernel_rfl) (by kernel_rfl) (fun _ _ _ h => h) rfl rfl (fun w hSw => ?_) hHeld ?_
            rotate_left
            · (go_simp; try with_reducible rfl)
            try simp only [Act.put, List.setIfInBounds_toArray, List.set_cons_zero, List.set_cons_succ]
            refine take_val (v := ?_) 1 (some 108) rfl (by kernel_rfl) (by kernel_rfl) (by kernel_rfl) (fun _ _ _ h => h) rfl rfl (fun w hSw => ?_) hHeld ?_
            rotate_left
            · (go_simp; try with_reducible rfl)
            try simp only [Act.put, List.setIfInBounds_toArray, List.set_cons_zero, List.set_cons_succ]
            refine take_val (v := ?_) 2 (some 109) rfl (by kernel_rfl) (by kernel_rfl) (by kernel_rfl) (fun _ _ _ h => h) rfl rfl (fun w hSw => ?_) hHeld ?_
            rotate_left
            · (go_simp; try with_reducible rfl)
            try simp only [Act.put, List.setIfInBounds_toArray, List.set_cons_zero, List.set_cons_succ]
            refine take_val (v := ?_) 3 (some 110) rfl (by kernel_rfl) (by kernel_rfl) (by kernel_rfl) (fun _ _ _ h => h) rfl rfl (fun w hSw => ?_) hHeld ?_
            rotate_left
            · (go_simp; try with_reducible rfl)
            try simp only [Act.put, List.setIfInBounds_toArray, List.set_cons_zero, List.set_cons_succ]
            refine take_val (v := (.int .i64 1)) 4 (some 111) rfl (by kernel_rfl) (by kernel_rfl) (by kernel_rfl) (fun _ _ _ h => h) rfl rfl (fun w hSw => ?_) hHeld ?_
            · have cs := HS.out.cells (C4.trans hSw HXY.out) HI.out
              have cx0 := cs.1
              have cx2 := cs.2.2.1
              clear cs
              rw [HW1.out] at cx0
              (go_simp; try with_reducible rfl)
            try simp only [Act.put, List.setIfInBounds_toArray, List.set_cons_zero, List.set_cons_succ]
            refine take_val (v := (.bool true)) 5 (some 112) rfl (by kernel_rfl) (by kernel_rfl) (by kernel_rfl) (fun _ _ _ h => h) rfl rfl (fun w hSw => ?_) hHeld ?_
            · (go_simp; try with_reducible rfl)
            try simp only [Act.put, List.setIfInBounds_toArray, List.set_cons_zero, List.set_cons_succ]
            refine take_val (v := ?_) 6 (some 113) rfl (by kernel_rfl) (by kernel_rfl) (by kernel_rfl) (fun _ _ _ h => h) rfl rfl (fun w hSw => ?_) hHeld ?_
            rotate_left
            · (go_simp; try with_reducible rfl)
            try simp only [Act.put, List.setIfInBounds_toArray, List.set_cons_zero, List.set_cons_succ]
            refine take_val (v := ?_) 7 (some 114) rfl (by kernel_rfl) (by kernel_rfl) (by kernel_rfl) (fun _ _ _ h => h) rfl rfl (fun w hSw => ?_) hHeld ?_
            rotate_left
            · (go_simp; try with_reducible rfl)
            try simp only [Act.put, List.setIfInBounds_toArray, List.set_cons_zero, List.set_cons_succ]
            refine take_val (v := ?_) 8 (some 115) rfl (by kernel_rfl) (by kernel_rfl) (by kernel_rfl) (fun _ _ _ h => h) rfl rfl (fun w hSw => ?_) hHeld ?_
            rotate_left
            · (go_simp; try with_reducible rfl)
            try simp only [Act.put, List.setIfInBounds_toArray, List.set_cons_zero, List.set_cons_succ]
            refine take_val (v := ?_) 9 (some 116) rfl (by kernel_rfl) (by kernel_rfl) (by kernel_rfl) (fun _ _ _ h => h) rfl rfl (fun w hSw => ?_) hHeld ?_
            rotate_left
            · (go_simp; try with_reducible rfl)
            try simp only [Act.put, List.setIfInBounds_toArray, List.set_cons_zero, List.set_cons_succ]
            refine take_val (v := ?_) 10 (some 117) rfl (by kernel_rfl) (by kernel_rfl) (by kernel_rfl) (fun _ _ _ h => h) rfl rfl (fun w hSw => ?_) hHeld ?_
            rotate_left
            · (go_simp; try with_reducible rfl)
            try simp only [Act.put, List.setIfInBounds_toArray, List.set_cons_zero, List.set_cons_succ]
            refine take_val (v := ?_) 11 (some 118) rfl (by kernel_rfl) (by kernel_rfl) (by kernel_rfl) (fun _ _ _ h => h) rfl rfl (fun w hSw => ?_) hHeld ?_
            rotate_left
            · (go_simp; try with_reducible rfl)
            try simp only [Act.put, List.setIfInBounds_toArray, List.set_cons_zero, List.set_cons_succ]
            refine take_val (v := (bv i)) 12 (some 119) rfl (by kernel_rfl) (by kernel_rfl) (by kernel_rfl) (fun _ _ _ h => h) rfl rfl (fun w hSw => ?_) hHeld ?_
            · have cs := HS.out.cells (C4.trans hSw HXY.out) HI.out
              have cx0 := cs.1
              have cx2 := cs.2.2.1
              clear cs
              (go_simp; try with_reducible rfl)
            try simp only [Act.put, List.setIfInBounds_toArray, List.set_cons_zero, List.set_cons_succ]
            refine take_val (v := ?_) 14 (some 121) rfl (by kernel_rfl) (by kernel_rfl) (by kernel_rfl) (fun _ _ _ h => h) rfl rfl (fun w hSw => ?_) hHeld ?_
            rotate_left
            · (go_simp; try with_reducible rfl)
            try simp only [Act.put, List.setIfInBounds_toArray, List.set_cons_zero, List.set_cons_succ]
            refine take_val (v := ?_) 15 (some 122) rfl (by kernel_rfl) (by kernel_rfl) (by kernel_rfl) (fun _ _ _ h => h) rfl rfl (fun w hSw => ?_) hHeld ?_
            rotate_left
            · (go_simp; try with_reducible rfl)
            try simp only [Act.put, List.setIfInBounds_toArray, List.set_cons_zero, List.set_cons_succ]
            refine take_val (v := ?_) 16 (some 123) rfl (by kernel_rfl) (by kernel_rfl) (by kernel_rfl) (fun _ _ _ h => h) rfl rfl (fun w hSw => ?_) hHeld ?_
            rotate_left
            · (go_simp; try with_reducible rfl)
            try simp only [Act.put, List.setIfInBounds_toArray, List.set_cons_zero, List.set_cons_succ]
            refine take_val (v := ?_) 17 (some 124) rfl (by kernel_rfl) (by kernel_rfl) (by kernel_rfl) (fun _ _ _ h => h) rfl rfl (fun w hSw => ?_) hHeld ?_
            rotate_left
            · (go_simp; try with_reducible rfl)
            try simp only [Act.put, List.setIfInBounds_toArray, List.set_cons_zero, List.set_cons_succ]
            refine take_val (v := ?_) 18 (some 125) rfl (by kernel_rfl) (by kernel_rfl) (by kernel_rfl) (fun _ _ _ h => h) rfl rfl (fun w hSw => ?_) hHeld ?_
            rotate_left
            · (go_simp; try with_reducible rfl)
            try simp only [Act.put, List.setIfInBounds_toArray, List.set_cons_zero, List.set_cons_succ]
            refine take_val (v := (bv i)) 19 (some 126) rfl (by kernel_rfl) (by kernel_rfl) (by kernel_rfl) (fun _ _ _ h => h) rfl rfl (fun w hSw => ?_) hHeld ?_
            · have cs := HS.out.cells (C4.trans hSw HXY.out) HI.out
              have cx0 := cs.1
              have cx2 := cs.2.2.1
              clear cs
              (go_simp; try with_reducible rfl)
            try simp only [Act.put, List.setIfInBounds_toArray, List.set_cons_zero, List.set_cons_succ]
            refine wpAnyH_ready (rs := [13]) (by kernel_rfl) (by simp) ?_
            refine AllReadyH.cons (o := _) rfl (fun K hK => ?_) ?_
            ·
              go_simp
              refine (HR.out gx _ (HG.out.chg (C4.trans hHeld HXY.out) (by simp) (by simp)) HP.out.1 Bx4.drew ((HSB.out.seo HX.out).chg ((C4.trans hHeld HXY.out).wide (l := [gx])))).mono ?_
              rintro e v5 ⟨rfl, k5, Bx5⟩
              have By5 := By4.drew.chg k5 (by have := HNE.out; simp; omega)
              have Z5 := Z4.chg ((Chg.refl w4 [gx]).drew.trans1 k5) (fun b hb => HZX.out b hb)
              go_wp2_with fail
              refine hK.out _ _ (hHeld.trans k5 (by simp)) (fun hHeld => ?_)
              clear hK K
              try simp only [Act.put, List.setIfInBounds_toArray, List.set_cons_zero, List.set_cons_succ]
              clear k5
              refine wpAnyH_ready (rs := [20]) (by kernel_rfl) (by simp) ?_
              refine AllReadyH.cons (o := _) rfl (fun K hK => ?_) ?_
              ·
                go_simp
                refine (HR.out gy _ (HG.out.chg (C4.trans hHeld HXY.out) (by simp) (by simp)) HP.out.2 By5 ((HSB.out.seo HY.out).chg ((C4.trans hHeld HXY.out).wide (l := [gy])))).mono ?_
                rintro e v6 ⟨rfl, k6, By6⟩
                have Bx6 := Bx5.chg k6 (by have := HNE.out; simp; omega)
                have Z6 := Z5.chg k6 (fun b hb => HZY.out b hb)
                go_wp2_with fail
                refine hK.out _ _ (hHeld.trans k6 (by simp)) (fun hHeld => ?_)
                clear hK K
                try simp only [Act.put, List.setIfInBounds_toArray, List.set_cons_zero, List.set_cons_succ]
                clear k6
                refine take_val (v := ?_) 21 (some 128) rfl (by kernel_rfl) (by kernel_rfl) (by kernel_rfl) (fun _ _ _ h => h) rfl rfl (fun w hSw => ?_) hHeld ?_
                rotate_left
                · (go_simp; try with_reducible rfl)
                try simp only [Act.put, List.setIfInBounds_toArray, List.set_cons_zero, List.set_cons_succ]
                refine take_val (v := ?_) 22 (some 129) rfl (by kernel_rfl) (by kernel_rfl) (by kernel_rfl) (fun _ _ _ h => h) rfl rfl (fun w hSw => ?_) hHeld ?_
                rotate_left
                · (go_simp; try with_reducible rfl)
                try simp only [Act.put, List.setIfInBounds_toArray, List.set_cons_zero, List.set_cons_succ]
                refine wpAnyH_done (by kernel_rfl) ?_ _
                have CF := C4.trans hHeld HXY.out
                clear hHeld C4 Bx4 By4 Z4 Bx5 By5 Z5
                go_wp2_with fail
                exact ⟨⟨i + 1, K3, V3, d3, HI2.out, by go_num, HK3.out.1, HK3.out.2.1, HK3.out.2.2, Bx6, By6, Z6, CF⟩, by have := HI.out; simp [intOf]; omega⟩
              exact AllReadyH.nil
            exact AllReadyH.nil
          · have hw2 : (wh i == 1) = false := by simpa using hw1
            have HW0 : Hid ((wh i == 1) = false) := hw2
            clear hw1 hw2
            refine wp_region_held_drew (S := fun w' => Chg w4 w' []) (by kernel_rfl) ((Chg.refl w4 _).drew) (fun hHeld => ?_)
            refine take_val (v := ?_) 0 (some 107) rfl (by kernel_rfl) (by kernel_rfl) (by kernel_rfl) (fun _ _ _ h => h) rfl rfl (fun w hSw => ?_) hHeld ?_
            rotate_left
            · (go_simp; try with_reducible rfl)
            try simp only [Act.put, List.setIfInBounds_toArray, List.set_cons_zero, List.set_cons_succ]
            refine take_val (v := ?_) 1 (some 108) rfl (by kernel_rfl) (by kernel_rfl) (by kernel_rfl) (fun _ _ _ h => h) rfl rfl (fun w hSw => ?_) hHeld ?_
            rotate_left
            · (go_simp; try with_reducible rfl)
            try simp only [Act.put, List.setIfInBounds_toArray, List.set_cons_zero, List.set_cons_succ]
            refine take_val (v := ?_) 2 (some 109) rfl (by kernel_rfl) (by kernel_rfl) (by kernel_rfl) (fun _ _ _ h => h) rfl rfl (fun w hSw => ?_) hHeld ?_
            rotate_left
            · (go_simp; try with_reducible rfl)
            try simp only [Act.put, List.setIfInBounds_toArray, List.set_cons_zero, List.set_cons_succ]
            refine take_val (v := ?_) 3 (some 110) rfl (by kernel_rfl) (by kernel_rfl) (by kernel_rfl) (fun _ _ _ h => h) rfl rfl (fun w hSw => ?_) hHeld ?_
            rotate_left
            · (go_simp; try with_reducible rfl)
            try simp only [Act.put, List.setIfInBounds_toArray, List.set_cons_zero, List.set_cons_succ]
            refine take_val (v := (.int .i64 (wh i))) 4 (some 111) rfl (by kernel_rfl) (by kernel_rfl) (by kernel_rfl) (fun _ _ _ h => h) rfl rfl (fun w hSw => ?_) hHeld ?_
            · have cs := HS.out.cells (C4.trans1 hSw) HI.out
              have cx0 := cs.1
              have cx2 := cs.2.2.1
              clear cs
              (go_simp; try with_reducible rfl)
            try simp only [Act.put, List.setIfInBounds_toArray, List.set_cons_zero, List.set_cons_succ]
            refine take_val (v := (.bool false)) 5 (some 112) rfl (by kernel_rfl) (by kernel_rfl) (by kernel_rfl) (fun _ _ _ h => h) rfl rfl (fun w hSw => ?_) hHeld ?_
            · have hw := HW0.out
              (go_simp; try with_reducible rfl)
            try simp only [Act.put, List.setIfInBounds_toArray, List.set_cons_zero, List.set_cons_succ]
            refine take_val (v := ?_) 6 (some 113) rfl (by kernel_rfl) (by kernel_rfl) (by kernel_rfl) (fun _ _ _ h => h) rfl rfl (fun w hSw => ?_) hHeld ?_
            rotate_left
            · (go_simp; try with_reducible rfl)
            try simp only [Act.put, List.setIfInBounds_toArray, List.set_cons_zero, List.set_cons_succ]
            refine take_no 7 (some 114) rfl (by kernel_rfl) (by kernel_rfl) (by kernel_rfl) (fun _ _ _ h => h) rfl rfl hHeld ?_
            try simp only [Act.put, List.setIfInBounds_toArray, List.set_cons_zero, List.set_cons_succ]
            refine take_no 8 (some 115) rfl (by kernel_rfl) (by kernel_rfl) (by kernel_rfl) (fun _ _ _ h => h) rfl rfl hHeld ?_
            try simp only [Act.put, List.setIfInBounds_toArray, List.set_cons_zero, List.set_cons_succ]
            refine take_no 9 (some 116) rfl (by kernel_rfl) (by kernel_rfl) (by kernel_rfl) (fun _ _ _ h => h) rfl rfl hHeld ?_
            try simp only [Act.put, List.setIfInBounds_toArray, List.set_cons_zero, List.set_cons_succ]
            refine take_no 10 (some 117) rfl (by kernel_rfl) (by kernel_rfl) (by kernel_rfl) (fun _ _ _ h => h) rfl rfl hHeld ?_
            try simp only [Act.put, List.setIfInBounds_toArray, List.set_cons_zero, List.set_cons_succ]
            refine take_no 11 (some 118) rfl (by kernel_rfl) (by kernel_rfl) (by kernel_rfl) (fun _ _ _ h => h) rfl rfl hHeld ?_
            try simp only [Act.put, List.setIfInBounds_toArray, List.set_cons_zero, List.set_cons_succ]
            refine take_no 12 (some 119) rfl (by kernel_rfl) (by kernel_rfl) (by kernel_rfl) (fun _ _ _ h => h) rfl rfl hHeld ?_
            try simp only [Act.put, List.setIfInBounds_toArray, List.set_cons_zero, List.set_cons_succ]
            refine take_no 13 (some 120) rfl (by kernel_rfl) (by kernel_rfl) (by kernel_rfl) (fun _ _ _ h => h) rfl rfl hHeld ?_
            try simp only [Act.put, List.setIfInBounds_toArray, List.set_cons_zero, List.set_cons_succ]
            refine take_no 14 (some 121) rfl (by kernel_rfl) (by kernel_rfl) (by kernel_rfl) (fun _ _ _ h => h) rfl rfl hHeld ?_
            try simp only [Act.put, List.setIfInBounds_toArray, List.set_cons_zero, List.set_cons_succ]
            refine take_no 15 (some 122) rfl (by kernel_rfl) (by kernel_rfl) (by kernel_rfl) (fun _ _ _ h => h) rfl rfl hHeld ?_
            try simp only [Act.put, List.setIfInBounds_toArray, List.set_cons_zero, List.set_cons_succ]
            refine take_no 16 (some 123) rfl (by kernel_rfl) (by kernel_rfl) (by kernel_rfl) (fun _ _ _ h => h) rfl rfl hHeld ?_
            try simp only [Act.put, List.setIfInBounds_toArray, List.set_cons_zero, List.set_cons_succ]
            refine take_no 17 (some 124) rfl (by kernel_rfl) (by kernel_rfl) (by kernel_rfl) (fun _ _ _ h => h) rfl rfl hHeld ?_
            try simp only [Act.put, List.setIfInBounds_toArray, List.set_cons_zero, List.set_cons_succ]
            refine take_no 18 (some 125) rfl (by kernel_rfl) (by kernel_rfl) (by kernel_rfl) (fun _ _ _ h => h) rfl rfl hHeld ?_
            try simp only [Act.put, List.setIfInBounds_toArray, List.set_cons_zero, List.set_cons_succ]
            refine take_no 19 (some 126) rfl (by kernel_rfl) (by kernel_rfl) (by kernel_rfl) (fun _ _ _ h => h) rfl rfl hHeld ?_
            try simp only [Act.put, List.setIfInBounds_toArray, List.set_cons_zero, List.set_cons_succ]
            refine take_no 20 (some 127) rfl (by kernel_rfl) (by kernel_rfl) (by kernel_rfl) (fun _ _ _ h => h) rfl rfl hHeld ?_
            try simp only [Act.put, List.setIfInBounds_toArray, List.set_cons_zero, List.set_cons_succ]
            refine take_no 21 (some 128) rfl (by kernel_rfl) (by kernel_rfl) (by kernel_rfl) (fun _ _ _ h => h) rfl rfl hHeld ?_
            try simp only [Act.put, List.setIfInBounds_toArray, List.set_cons_zero, List.set_cons_succ]
            refine take_val (v := ?_) 22 (some 129) rfl (by kernel_rfl) (by kernel_rfl) (by kernel_rfl) (fun _ _ _ h => h) rfl rfl (fun w hSw => ?_) hHeld ?_
            rotate_left
            · (go_simp; try with_reducible rfl)
            try simp only [Act.put, List.setIfInBounds_toArray, List.set_cons_zero, List.set_cons_succ]
            refine wpAnyH_done (by kernel_rfl) ?_ _
            have CF := C4.trans1 hHeld
            have BXF := Bx4.chg hHeld (by simp)
            have BYF := By4.chg hHeld (by simp)
            have ZF := Z4.chg hHeld (by simp)
            clear hHeld C4 Bx4 By4 Z4
            go_wp2_with fail
            exact ⟨⟨i + 1, K2, V2, d2, HI2.out, by go_num, HK2.out.1, HK2.out.2.1, HK2.out.2.2, BXF, BYF, ZF, CF⟩, by have := HI.out; simp [intOf]; omega⟩
        · have h2' : ¬ (2000 : Int) < nn i := h2
          clear h2
          have q := fun (g : Nat) (W : World) (hG : Gl W) (hg : 2 ≤ g) (B : Blk W g (gC Ka Va da) 141) (hev : SeO g W (ev i) (en i) (ef i)) => Draw_a g Ka Va da (nn i) (ev i) (en i) (ef i) W hG hg HK.out.1 HK.out.2.1 HK.out.2.2 B hev
          have l1 := aK_lt HK.out.1 (V := Va) da (nn i) (en i) (ef i)
          have l2 := aV_lt HK.out.2.1 (K := Ka) da (nn i) (en i) (ef i)
          have l3 := aD_le (n := (nn i)) HK.out.2.2
          obtain ⟨E, hE⟩ : ∃ z, rfs (nn i) da = z := ⟨_, rfl⟩
          obtain ⟨A, hA⟩ : ∃ z, aN (nn i) da = z := ⟨_, rfl⟩
          obtain ⟨F, hF⟩ : ∃ z, dO Ka Va (en i) (ef i) = z := ⟨_, rfl⟩
          obtain ⟨K2, hK2⟩ : ∃ z, aK Ka Va da (nn i) (en i) (ef i) = z := ⟨_, rfl⟩
          obtain ⟨V2, hV2⟩ : ∃ z, aV Ka Va da (nn i) (en i) (ef i) = z := ⟨_, rfl⟩
          obtain ⟨d2, hd2⟩ : ∃ z, aD (nn i) da = z := ⟨_, rfl⟩
          rw [hK2] at l1
          rw [hV2] at l2
          rw [hd2] at l3
          simp only [hE, hA, hF, hK2, hV2, hd2] at q
          have HQ : Hid (_ ∧ True) := ⟨q, trivial⟩
          have HK2 : Hid (L64 K2 ∧ L64 V2 ∧ d2 ≤ 4096) := ⟨l1, l2, l3⟩
          clear q hE hA hF hK2 hV2 hd2 l1 l2 l3
          have cs := HS.out.cells C0 HI.out
          have cy1 := cs.2.1
          have cy3 := cs.2.2.2
          clear cs
          go_wp2_with fail
          refine (HQ.out.1 gx wr (HG.out.chg C0 (by simp) (by simp)) HP.out.1 Bx ((HSE.out.seo HX.out).chg (C0.wide (l := [gx])))).mono ?_
          rintro e w1 ⟨va, rfl, S1, N1, k1, Bx1⟩
          have HSZ : Hid (gx < wr.heap.size ∧ gy < wr.heap.size ∧ ∀ b, b ∈ zb zv → b < wr.heap.size) := ⟨Bx.lt, By.lt, fun b hb => Z0.lt b hb⟩
          have By1 := By.chg k1 (by have := HNE.out; simp; omega)
          have Z1 := Z0.chg k1 (fun b hb => HZX.out b hb)
          have C1 := C0.new k1 HX.out
          have HV1 : Hid (VN va wr.heap.size) := N1
          clear cy1 cy3 k1 C0 Bx By Z0 N1
          have cs := HS.out.cells C1 HI.out
          have cy2 := cs.2.2.1
          clear cs
          go_wp2_with fail
          refine (Draw_z zv 1 (bv i) (bn i) (bf i) w1 (HG.out.chg C1 (by simp) (by simp)) Z1 (fun b hb => ⟨(HZP.out b hb).2, (HSB.out.seo (HZP.out b hb).1).chg (C1.wide (l := [b]))⟩)).mono ?_
          rintro e w2 ⟨rz, rfl, Z2, k2⟩
          have Bx2 := Bx1.chg k2 (fun hb => HZX.out gx hb (by simp))
          have By2 := By1.chg k2 (fun hb => HZY.out gy hb (by simp))
          have S2 := S1.chg k2 (fun g o n c he hx => by have := HV1.out g o n c he; have := HSZ.out.2.2 g hx; omega)
          have C2 := C1.trans k2 (fun b hb => Or.inr (HZP.out b hb).1)
          clear cy2 k2 C1 Bx1 By1 Z1 S1
          have cs := HS.out.cells C2 HI.out
          have cy3 := cs.2.2.2
          clear cs
          go_wp2_with fail
          refine (HQ.out.1 gy w2 (HG.out.chg C2 (by simp) (by simp)) HP.out.2 By2 ((HSE.out.seo HY.out).chg (C2.wide (l := [gy])))).mono ?_
          rintro e w3 ⟨vb, rfl, S3, N3, k3, By3⟩
          have Bx3 := Bx2.chg k3 (by have := HNE.out; simp; omega)
          have Z3 := Z2.chg k3 (fun b hb => HZY.out b hb)
          have SA := S2.chg k3 (HV1.out.off HSZ.out.2.1)
          have C3 := C2.new k3 HY.out
          clear cy3 k3 C2 Bx2 By2 Z2 S2 N3
          go_wp2_with fail
          refine (SameBytes_sl va vb A F w3 SA S3).mono ?_
          rintro e w4 ⟨rfl, k4⟩
          have Bx4 := Bx3.chg k4 (by simp)
          have By4 := By3.chg k4 (by simp)
          have Z4 := Z3.chg k4 (by simp)
          have C4 := C3.trans1 k4
          clear k4 C3 Bx3 By3 Z3 SA S3 HV1 HSZ HQ
          go_upto_region 21 with fail
          by_cases hw1 : wh i = 1
          · have HW1 : Hid (wh i = 1) := hw1
            have q := fun (g : Nat) (W : World) (hG : Gl W) (hg : 2 ≤ g) (B : Blk W g (gC K2 V2 d2) 141) (h0 : SeO g W (bv i) (bn i) (bf i)) => Reseed_a g K2 V2 d2 (bv i) (bn i) (bf i) W hG hg HK2.out.1 HK2.out.2.1 B h0
            have l1 := sK_lt HK2.out.1 (V := V2) (bn i) (bf i)
            have l2 := sV_lt HK2.out.2.1 (K := K2) (bn i) (bf i)
            have l3 := sD_le HK2.out.2.2 (bn i)
            obtain ⟨E3, hE⟩ : ∃ z, sE (bn i) = z := ⟨_, rfl⟩
            obtain ⟨K3, hK3⟩ : ∃ z, sK K2 V2 (bn i) (bf i) = z := ⟨_, rfl⟩
            obtain ⟨V3, hV3⟩ : ∃ z, sV K2 V2 (bn i) (bf i) = z := ⟨_, rfl⟩
            obtain ⟨d3, hd3⟩ : ∃ z, sD d2 (bn i) = z := ⟨_, rfl⟩
            rw [hK3] at l1
            rw [hV3] at l2
            rw [hd3] at l3
            simp only [hE, hK3, hV3, hd3] at q
            have HR : Hid (∀ (g : Nat) (W : World), Gl W → 2 ≤ g → Blk W g (gC K2 V2 d2) 141 → SeO g W (bv i) (bn i) (bf i) → Calls Tryd.prog 24 #[.pointer (some ⟨g, 0, none⟩), bv i, .slice none 0 0] W fun e w' => e = .returned (.int .i64 E3) ∧ Chg W w' [g] ∧ Blk w' g (gC K3 V3 d3) 141) := q
            have HK3 : Hid (L64 K3 ∧ L64 V3 ∧ d3 ≤ 4096) := ⟨l1, l2, l3⟩
            clear q hE hK3 hV3 hd3 l1 l2 l3 hw1
            refine wp_region_held_drew (S := fun w' => Chg w4 w' [gx, gy]) (by kernel_rfl) ((Chg.refl w4 _).drew) (fun hHeld => ?_)
            refine take_val (v := ?_) 0 (some 107) rfl (by kernel_rfl) (by kernel_rfl) (by kernel_rfl) (fun _ _ _ h => h) rfl rfl (fun w hSw => ?_) hHeld ?_
            rotate_left
            · (go_simp; try with_reducible rfl)
            try simp only [Act.put, List.setIfInBounds_toArray, List.set_cons_zero, List.set_cons_succ]
            refine take_val (v := ?_) 1 (some 108) rfl (by kernel_rfl) (by kernel_rfl) (by kernel_rfl) (fun _ _ _ h => h) rfl rfl (fun w hSw => ?_) hHeld ?_
            rotate_left
            · (go_simp; try with_reducible rfl)
            try simp only [Act.put, List.setIfInBounds_toArray, List.set_cons_zero, List.set_cons_succ]
            refine take_val (v := ?_) 2 (some 109) rfl (by kernel_rfl) (by kernel_rfl) (by kernel_rfl) (fun _ _ _ h => h) rfl rfl (fun w hSw => ?_) hHeld ?_
            rotate_left
            · (go_simp; try with_reducible rfl)
            try simp only [Act.put, List.setIfInBounds_toArray, List.set_cons_zero, List.set_cons_succ]
            refine take_val (v := ?_) 3 (some 110) rfl (by kernel_rfl) (by kernel_rfl) (by kernel_rfl) (fun _ _ _ h => h) rfl rfl (fun w hSw => ?_) hHeld ?_
            rotate_left
            · (go_simp; try with_reducible rfl)
            try simp only [Act.put, List.setIfInBounds_toArray, List.set_cons_zero, List.set_cons_succ]
            refine take_val (v := (.int .i64 1)) 4 (some 111) rfl (by kernel_rfl) (by kernel_rfl) (by kernel_rfl) (fun _ _ _ h => h) rfl rfl (fun w hSw => ?_) hHeld ?_
            · have cs := HS.out.cells (C4.trans hSw HXY.out) HI.out
              have cx0 := cs.1
              have cx2 := cs.2.2.1
              clear cs
              rw [HW1.out] at cx0
              (go_simp; try with_reducible rfl)
            try simp only [Act.put, List.setIfInBounds_toArray, List.set_cons_zero, List.set_cons_succ]
            refine take_val (v := (.bool true)) 5 (some 112) rfl (by kernel_rfl) (by kernel_rfl) (by kernel_rfl) (fun _ _ _ h => h) rfl rfl (fun w hSw => ?_) hHeld ?_
            · (go_simp; try with_reducible rfl)
            try simp only [Act.put, List.setIfInBounds_toArray, List.set_cons_zero, List.set_cons_succ]
            refine take_val (v := ?_) 6 (some 113) rfl (by kernel_rfl) (by kernel_rfl) (by kernel_rfl) (fun _ _ _ h => h) rfl rfl (fun w hSw => ?_) hHeld ?_
            rotate_left
            · (go_simp; try with_reducible rfl)
            try simp only [Act.put, List.setIfInBounds_toArray, List.set_cons_zero, List.set_cons_succ]
            refine take_val (v := ?_) 7 (some 114) rfl (by kernel_rfl) (by kernel_rfl) (by kernel_rfl) (fun _ _ _ h => h) rfl rfl (fun w hSw => ?_) hHeld ?_
            rotate_left
            · (go_simp; try with_reducible rfl)
            try simp only [Act.put, List.setIfInBounds_toArray, List.set_cons_zero, List.set_cons_succ]
            refine take_val (v := ?_) 8 (some 115) rfl (by kernel_rfl) (by kernel_rfl) (by kernel_rfl) (fun _ _ _ h => h) rfl rfl (fun w hSw => ?_) hHeld ?_
            rotate_left
            · (go_simp; try with_reducible rfl)
            try simp only [Act.put, List.setIfInBounds_toArray, List.set_cons_zero, List.set_cons_succ]
            refine take_val (v := ?_) 9 (some 116) rfl (by kernel_rfl) (by kernel_rfl) (by kernel_rfl) (fun _ _ _ h => h) rfl rfl (fun w hSw => ?_) hHeld ?_
            rotate_left
            · (go_simp; try with_reducible rfl)
            try simp only [Act.put, List.setIfInBounds_toArray, List.set_cons_zero, List.set_cons_succ]
            refine take_val (v := ?_) 10 (some 117) rfl (by kernel_rfl) (by kernel_rfl) (by kernel_rfl) (fun _ _ _ h => h) rfl rfl (fun w hSw => ?_) hHeld ?_
            rotate_left
            · (go_simp; try with_reducible rfl)
            try simp only [Act.put, List.setIfInBounds_toArray, List.set_cons_zero, List.set_cons_succ]
            refine take_val (v := ?_) 11 (some 118) rfl (by kernel_rfl) (by kernel_rfl) (by kernel_rfl) (fun _ _ _ h => h) rfl rfl (fun w hSw => ?_) hHeld ?_
            rotate_left
            · (go_simp; try with_reducible rfl)
            try simp only [Act.put, List.setIfInBounds_toArray, List.set_cons_zero, List.set_cons_succ]
            refine take_val (v := (bv i)) 12 (some 119) rfl (by kernel_rfl) (by kernel_rfl) (by kernel_rfl) (fun _ _ _ h => h) rfl rfl (fun w hSw => ?_) hHeld ?_
            · have cs := HS.out.cells (C4.trans hSw HXY.out) HI.out
              have cx0 := cs.1
              have cx2 := cs.2.2.1
              clear cs
              (go_simp; try with_reducible rfl)
            try simp only [Act.put, List.setIfInBounds_toArray, List.set_cons_zero, List.set_cons_succ]
            refine take_val (v := ?_) 14 (some 121) rfl (by kernel_rfl) (by kernel_rfl) (by kernel_rfl) (fun _ _ _ h => h) rfl rfl (fun w hSw => ?_) hHeld ?_
            rotate_left
            · (go_simp; try with_reducible rfl)
            try simp only [Act.put, List.setIfInBounds_toArray, List.set_cons_zero, List.set_cons_succ]
            refine take_val (v := ?_) 15 (some 122) rfl (by kernel_rfl) (by kernel_rfl) (by kernel_rfl) (fun _ _ _ h => h) rfl rfl (fun w hSw => ?_) hHeld ?_
            rotate_left
            · (go_simp; try with_reducible rfl)
            try simp only [Act.put, List.setIfInBounds_toArray, List.set_cons_zero, List.set_cons_succ]
            refine take_val (v := ?_) 16 (some 123) rfl (by kernel_rfl) (by kernel_rfl) (by kernel_rfl) (fun _ _ _ h => h) rfl rfl (fun w hSw => ?_) hHeld ?_
            rotate_left
            · (go_simp; try with_reducible rfl)
            try simp only [Act.put, List.setIfInBounds_toArray, List.set_cons_zero, List.set_cons_succ]
            refine take_val (v := ?_) 17 (some 124) rfl (by kernel_rfl) (by kernel_rfl) (by kernel_rfl) (fun _ _ _ h => h) rfl rfl (fun w hSw => ?_) hHeld ?_
            rotate_left
            · (go_simp; try with_reducible rfl)
            try simp only [Act.put, List.setIfInBounds_toArray, List.set_cons_zero, List.set_cons_succ]
            refine take_val (v := ?_) 18 (some 125) rfl (by kernel_rfl) (by kernel_rfl) (by kernel_rfl) (fun _ _ _ h => h) rfl rfl (fun w hSw => ?_) hHeld ?_
            rotate_left
            · (go_simp; try with_reducible rfl)
            try simp only [Act.put, List.setIfInBounds_toArray, List.set_cons_zero, List.set_cons_succ]
            refine take_val (v := (bv i)) 19 (some 126) rfl (by kernel_rfl) (by kernel_rfl) (by kernel_rfl) (fun _ _ _ h => h) rfl rfl (fun w hSw => ?_) hHeld ?_
            · have cs := HS.out.cells (C4.trans hSw HXY.out) HI.out
              have cx0 := cs.1
              have cx2 := cs.2.2.1
              clear cs
              (go_simp; try with_reducible rfl)
            try simp only [Act.put, List.setIfInBounds_toArray, List.set_cons_zero, List.set_cons_succ]
            refine wpAnyH_ready (rs := [13]) (by kernel_rfl) (by simp) ?_
            refine AllReadyH.cons (o := _) rfl (fun K hK => ?_) ?_
            ·
              go_simp
              refine (HR.out gx _ (HG.out.chg (C4.trans hHeld HXY.out) (by simp) (by simp)) HP.out.1 Bx4.drew ((HSB.out.seo HX.out).chg ((C4.trans hHeld HXY.out).wide (l := [gx])))).mono ?_
              rintro e v5 ⟨rfl, k5, Bx5⟩
              have By5 := By4.drew.chg k5 (by have := HNE.out; simp; omega)
              have Z5 := Z4.chg ((Chg.refl w4 [gx]).drew.trans1 k5) (fun b hb => HZX.out b hb)
              go_wp2_with fail
              refine hK.out _ _ (hHeld.trans k5 (by simp)) (fun hHeld => ?_)
              clear hK K
              try simp only [Act.put, List.setIfInBounds_toArray, List.set_cons_zero, List.set_cons_succ]
              clear k5
              refine wpAnyH_ready (rs := [20]) (by kernel_rfl) (by simp) ?_
              refine AllReadyH.cons (o := _) rfl (fun K hK => ?_) ?_
              ·
                go_simp
                refine (HR.out gy _ (HG.out.chg (C4.trans hHeld HXY.out) (by simp) (by simp)) HP.out.2 By5 ((HSB.out.seo HY.out).chg ((C4.trans hHeld HXY.out).wide (l := [gy])))).mono ?_
                rintro e v6 ⟨rfl, k6, By6⟩
                have Bx6 := Bx5.chg k6 (by have := HNE.out; simp; omega)
                have Z6 := Z5.chg k6 (fun b hb => HZY.out b hb)
                go_wp2_with fail
                refine hK.out _ _ (hHeld.trans k6 (by simp)) (fun hHeld => ?_)
                clear hK K
                try simp only [Act.put, List.setIfInBounds_toArray, List.set_cons_zero, List.set_cons_succ]
                clear k6
                refine take_val (v := ?_) 21 (some 128) rfl (by kernel_rfl) (by kernel_rfl) (by kernel_rfl) (fun _ _ _ h => h) rfl rfl (fun w hSw => ?_) hHeld ?_
                rotate_left
                · (go_simp; try with_reducible rfl)
                try simp only [Act.put, List.setIfInBounds_toArray, List.set_cons_zero, List.set_cons_succ]
                refine take_val (v := ?_) 22 (some 129) rfl (by kernel_rfl) (by kernel_rfl) (by kernel_rfl) (fun _ _ _ h => h) rfl rfl (fun w hSw => ?_) hHeld ?_
                rotate_left
                · (go_simp; try with_reducible rfl)
                try simp only [Act.put, List.setIfInBounds_toArray, List.set_cons_zero, List.set_cons_succ]
                refine wpAnyH_done (by kernel_rfl) ?_ _
                have CF := C4.trans hHeld HXY.out
                clear hHeld C4 Bx4 By4 Z4 Bx5 By5 Z5
                go_wp2_with fail
                exact ⟨⟨i + 1, K3, V3, d3, HI2.out, by go_num, HK3.out.1, HK3.out.2.1, HK3.out.2.2, Bx6, By6, Z6, CF⟩, by have := HI.out; simp [intOf]; omega⟩
              exact AllReadyH.nil
            exact AllReadyH.nil
          · have hw2 : (wh i == 1) = false := by simpa using hw1
            have HW0 : Hid ((wh i == 1) = false) := hw2
            clear hw1 hw2
            refine wp_region_held_drew (S := fun w' => Chg w4 w' []) (by kernel_rfl) ((Chg.refl w4 _).drew) (fun hHeld => ?_)
            refine take_val (v := ?_) 0 (some 107) rfl (by kernel_rfl) (by kernel_rfl) (by kernel_rfl) (fun _ _ _ h => h) rfl rfl (fun w hSw => ?_) hHeld ?_
            rotate_left
            · (go_simp; try with_reducible rfl)
            try simp only [Act.put, List.setIfInBounds_toArray, List.set_cons_zero, List.set_cons_succ]
            refine take_val (v := ?_) 1 (some 108) rfl (by kernel_rfl) (by kernel_rfl) (by kernel_rfl) (fun _ _ _ h => h) rfl rfl (fun w hSw => ?_) hHeld ?_
            rotate_left
            · (go_simp; try with_reducible rfl)
            try simp only [Act.put, List.setIfInBounds_toArray, List.set_cons_zero, List.set_cons_succ]
            refine take_val (v := ?_) 2 (some 109) rfl (by kernel_rfl) (by kernel_rfl) (by kernel_rfl) (fun _ _ _ h => h) rfl rfl (fun w hSw => ?_) hHeld ?_
            rotate_left
            · (go_simp; try with_reducible rfl)
            try simp only [Act.put, List.setIfInBounds_toArray, List.set_cons_zero, List.set_cons_succ]
            refine take_val (v := ?_) 3 (some 110) rfl (by kernel_rfl) (by kernel_rfl) (by kernel_rfl) (fun _ _ _ h => h) rfl rfl (fun w hSw => ?_) hHeld ?_
            rotate_left
            · (go_simp; try with_reducible rfl)
            try simp only [Act.put, List.setIfInBounds_toArray, List.set_cons_zero, List.set_cons_succ]
            refine take_val (v := (.int .i64 (wh i))) 4 (some 111) rfl (by kernel_rfl) (by kernel_rfl) (by kernel_rfl) (fun _ _ _ h => h) rfl rfl (fun w hSw => ?_) hHeld ?_
            · have cs := HS.out.cells (C4.trans1 hSw) HI.out
              have cx0 := cs.1
              have cx2 := cs.2.2.1
              clear cs
              (go_simp; try with_reducible rfl)
            try simp only [Act.put, List.setIfInBounds_toArray, List.set_cons_zero, List.set_cons_succ]
            refine take_val (v := (.bool false)) 5 (some 112) rfl (by kernel_rfl) (by kernel_rfl) (by kernel_rfl) (fun _ _ _ h => h) rfl rfl (fun w hSw => ?_) hHeld ?_
            · have hw := HW0.out
              (go_simp; try with_reducible rfl)
            try simp only [Act.put, List.setIfInBounds_toArray, List.set_cons_zero, List.set_cons_succ]
            refine take_val (v := ?_) 6 (some 113) rfl (by kernel_rfl) (by kernel_rfl) (by kernel_rfl) (fun _ _ _ h => h) rfl rfl (fun w hSw => ?_) hHeld ?_
            rotate_left
            · (go_simp; try with_reducible rfl)
            try simp only [Act.put, List.setIfInBounds_toArray, List.set_cons_zero, List.set_cons_succ]
            refine take_no 7 (some 114) rfl (by kernel_rfl) (by kernel_rfl) (by kernel_rfl) (fun _ _ _ h => h) rfl rfl hHeld ?_
            try simp only [Act.put, List.setIfInBounds_toArray, List.set_cons_zero, List.set_cons_succ]
            refine take_no 8 (some 115) rfl (by kernel_rfl) (by kernel_rfl) (by kernel_rfl) (fun _ _ _ h => h) rfl rfl hHeld ?_
            try simp only [Act.put, List.setIfInBounds_toArray, List.set_cons_zero, List.set_cons_succ]
            refine take_no 9 (some 116) rfl (by kernel_rfl) (by kernel_rfl) (by kernel_rfl) (fun _ _ _ h => h) rfl rfl hHeld ?_
            try simp only [Act.put, List.setIfInBounds_toArray, List.set_cons_zero, List.set_cons_succ]
            refine take_no 10 (some 117) rfl (by kernel_rfl) (by kernel_rfl) (by kernel_rfl) (fun _ _ _ h => h) rfl rfl hHeld ?_
            try simp only [Act.put, List.setIfInBounds_toArray, List.set_cons_zero, List.set_cons_succ]
            refine take_no 11 (some 118) rfl (by kernel_rfl) (by kernel_rfl) (by kernel_rfl) (fun _ _ _ h => h) rfl rfl hHeld ?_
            try simp only [Act.put, List.setIfInBounds_toArray, List.set_cons_zero, List.set_cons_succ]
            refine take_no 12 (some 119) rfl (by kernel_rfl) (by kernel_rfl) (by kernel_rfl) (fun _ _ _ h => h) rfl rfl hHeld ?_
            try simp only [Act.put, List.setIfInBounds_toArray, List.set_cons_zero, List.set_cons_succ]
            refine take_no 13 (some 120) rfl (by kernel_rfl) (by kernel_rfl) (by kernel_rfl) (fun _ _ _ h => h) rfl rfl hHeld ?_
            try simp only [Act.put, List.setIfInBounds_toArray, List.set_cons_zero, List.set_cons_succ]
            refine take_no 14 (some 121) rfl (by kernel_rfl) (by kernel_rfl) (by kernel_rfl) (fun _ _ _ h => h) rfl rfl hHeld ?_
            try simp only [Act.put, List.setIfInBounds_toArray, List.set_cons_zero, List.set_cons_succ]
            refine take_no 15 (some 122) rfl (by kernel_rfl) (by kernel_rfl) (by kernel_rfl) (fun _ _ _ h => h) rfl rfl hHeld ?_
            try simp only [Act.put, List.setIfInBounds_toArray, List.set_cons_zero, List.set_cons_succ]
            refine take_no 16 (some 123) rfl (by kernel_rfl) (by kernel_rfl) (by kernel_rfl) (fun _ _ _ h => h) rfl rfl hHeld ?_
            try simp only [Act.put, List.setIfInBounds_toArray, List.set_cons_zero, List.set_cons_succ]
            refine take_no 17 (some 124) rfl (by kernel_rfl) (by kernel_rfl) (by kernel_rfl) (fun _ _ _ h => h) rfl rfl hHeld ?_
            try simp only [Act.put, List.setIfInBounds_toArray, List.set_cons_zero, List.set_cons_succ]
            refine take_no 18 (some 125) rfl (by kernel_rfl) (by kernel_rfl) (by kernel_rfl) (fun _ _ _ h => h) rfl rfl hHeld ?_
            try simp only [Act.put, List.setIfInBounds_toArray, List.set_cons_zero, List.set_cons_succ]
            refine take_no 19 (some 126) rfl (by kernel_rfl) (by kernel_rfl) (by kernel_rfl) (fun _ _ _ h => h) rfl rfl hHeld ?_
            try simp only [Act.put, List.setIfInBounds_toArray, List.set_cons_zero, List.set_cons_succ]
            refine take_no 20 (some 127) rfl (by kernel_rfl) (by kernel_rfl) (by kernel_rfl) (fun _ _ _ h => h) rfl rfl hHeld ?_
            try simp only [Act.put, List.setIfInBounds_toArray, List.set_cons_zero, List.set_cons_succ]
            refine take_no 21 (some 128) rfl (by kernel_rfl) (by kernel_rfl) (by kernel_rfl) (fun _ _ _ h => h) rfl rfl hHeld ?_
            try simp only [Act.put, List.setIfInBounds_toArray, List.set_cons_zero, List.set_cons_succ]
            refine take_val (v := ?_) 22 (some 129) rfl (by kernel_rfl) (by kernel_rfl) (by kernel_rfl) (fun _ _ _ h => h) rfl rfl (fun w hSw => ?_) hHeld ?_
            rotate_left
            · (go_simp; try with_reducible rfl)
            try simp only [Act.put, List.setIfInBounds_toArray, List.set_cons_zero, List.set_cons_succ]
            refine wpAnyH_done (by kernel_rfl) ?_ _
            have CF := C4.trans1 hHeld
            have BXF := Bx4.chg hHeld (by simp)
            have BYF := By4.chg hHeld (by simp)
            have ZF := Z4.chg hHeld (by simp)
            clear hHeld C4 Bx4 By4 Z4
            go_wp2_with fail
            exact ⟨⟨i + 1, K2, V2, d2, HI2.out, by go_num, HK2.out.1, HK2.out.2.1, HK2.out.2.2, BXF, BYF, ZF, CF⟩, by have := HI.out; simp [intOf]; omega⟩
      · have h9 : i = N := by omega
        subst h9
        have hI : ¬ (i : Int) < (i : Int) := by omega
        go_wp2_with fail
        refine (Left_s gx Ka Va da HK.out.2.2 wr Bx).mono ?_
        rintro e w5 ⟨rfl, rfl⟩
        go_wp2_with fail
        refine (Left_s gy Ka Va da HK.out.2.2 w5 By).mono ?_
        rintro e w6 ⟨rfl, rfl⟩
        go_wp2_with fail
        go_ret
        exact ⟨by simp, C0⟩
end Go.Proofs.YthpfdnkcepfbaaaDoor
