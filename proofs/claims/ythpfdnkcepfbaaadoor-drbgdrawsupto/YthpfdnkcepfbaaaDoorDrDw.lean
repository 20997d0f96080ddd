/- DrbgDraws: the walk. -/
import Derived.Test.YthpfdnkcepfbaaaDoorDrDs
import Derived.Test.YthpfdnkcepfbaaaDoorDrTw
set_option linter.unusedVariables false
set_option linter.unusedSimpArgs false
set_option linter.unnecessarySimpa false
namespace Go.Proofs.YthpfdnkcepfbaaaDoor
open Go.RowKit

theorem zeroGv : (Tryd.prog.info? 39).bind (·.zero) = some (.agg (gvC gNil)) := by kernel_rfl
theorem KS.nil {w w1 : World} {gb : Nat} (BG : Blk w1 gb (gvC gNil) 39) (hgb : w.heap.size ≤ gb) (k1 : Chg w w1 []) : KS w w1 gb 0 0 (fun _ => 0) (fun _ => 0) (fun _ _ => 0) (.slice none 0 0) :=
  ⟨⟨gNil, fun _ => 0, fun _ _ => [], Gv.none BG _ _, fun _ _ _ _ => rfl, fun j hj => by omega, fun j hj => by omega, fun h => by omega⟩, Nat.le_refl _, OwnR.nil _ _ _ _ _, fun _ => rfl, fun j hj => by omega, hgb, k1⟩
theorem rC_dc {w : World} {g : Nat} {K V : Nat → Nat} {d : Nat} {T : TypeId} (B : Blk w g (rC K V d) T) : w.cell? ⟨g, 128, none⟩ = some (.int .i64 (d : Int)) := (B.cell 128).trans (rC_d K V d)
set_option maxHeartbeats 32000000 in
set_option maxRecDepth 100000 in
theorem draws_walk (v0 v1 v2 v3 : Value) (n0 : Nat) (f0 : Nat → Nat) (n1 : Nat) (f1 : Nat → Nat) (n2 : Nat) (f2 : Nat → Nat) (N : Nat) (wh nn : Nat → Int) (bv : Nat → Value) (bn : Nat → Nat) (bf : Nat → Nat → Nat) (ev : Nat → Value) (en : Nat → Nat) (ef : Nat → Nat → Nat) (w : World) (hG : Gl w) (h0 : Sl w v0 n0 f0) (h1 : Sl w v1 n1 f1) (h2 : Sl w v2 n2 f2) (hs : St4 w v3 N wh nn bv bn bf ev en ef)
    (hb : n0 ≤ 1048576 ∧ n1 ≤ 1048576 ∧ n2 ≤ 1048576 ∧ N ≤ 900000) (hbe : ∀ i, i < N → bn i ≤ 1048576 ∧ en i ≤ 1048576) :
    Calls Tryd.prog 4 #[v0, v1, v2, v3] w fun e w' => e = .returned (.bool true) ∧ Chg w w' [] := by
  have H0 : Hid (∀ W, Chg w W [] → Se W v0 n0 f0) := fun W h => Or.inl (h0.chg h (Off.nil _))
  have H1 : Hid (∀ W, Chg w W [] → Se W v1 n1 f1) := fun W h => Or.inl (h1.chg h (Off.nil _))
  have H2 : Hid (∀ W, Chg w W [] → Se W v2 n2 f2) := fun W h => Or.inl (h2.chg h (Off.nil _))
  have HB : Hid (n0 ≤ 1048576 ∧ n1 ≤ 1048576 ∧ n2 ≤ 1048576 ∧ N ≤ 900000) := hb
  have HBEA : Hid (∀ i, i < N → bn i ≤ 1048576 ∧ en i ≤ 1048576) := hbe
  have HG : Hid (∀ W, Chg w W [] → Gl W) := fun W h => hG.chg h (by simp) (by simp)
  have HGL : Hid (1 < w.heap.size) := hG.lt
  have HF : Hid ((∀ i, i < n0 → f0 i < 256) ∧ (∀ i, i < n1 → f1 i < 256) ∧ (∀ i, i < n2 → f2 i < 256)) := ⟨Se.bd (Or.inl h0), Se.bd (Or.inl h1), Se.bd (Or.inl h2)⟩
  obtain ⟨p0, c0, rfl⟩ := Se.form (Or.inl h0)
  obtain ⟨p1, c1, rfl⟩ := Se.form (Or.inl h1)
  obtain ⟨p2, c2, rfl⟩ := Se.form (Or.inl h2)
  obtain ⟨sp, sc, rfl⟩ : ∃ p c, v3 = .slice p N c := by
    rcases hs.2 with ⟨rfl, rfl⟩ | ⟨g, o, c, rfl, _⟩
    · exact ⟨_, _, rfl⟩
    · exact ⟨_, _, rfl⟩
  have hNB : N ≤ 9223372036854775807 := by omega
  have HS0 : Hid (St4 w (.slice sp N sc) N wh nn bv bn bf ev en ef) := hs
  clear h0 h1 h2 hb hbe hG hs
  go_enter Tryd.func4, Tryd.ntmps4
  go_upto_region 2 with (refine alloc_w rfl 39 rfl (.agg (gvC gNil)) zeroGv (gvC gNil) rfl ?_; intro gb w1 hgb BG k1)
  have K0 := KS.nil BG hgb k1
  clear BG k1 hgb
  go_wp2_with fail
  refine (K0.bytes (by omega) HB.out.1 (H0.out _ K0.cc) HF.out.1).mono ?_
  rintro e w2 ⟨o1, rfl, _, K1, A1, _⟩
  clear K0
  go_wp2_with fail
  refine (K1.bytes (by omega) HB.out.2.1 (H1.out _ K1.cc) HF.out.2.1).mono ?_
  rintro e w3 ⟨o2, rfl, _, K2, A2, q⟩
  replace A1 := A1.kq q
  clear K1 q
  go_wp2_with fail
  refine (K2.bytes (by omega) HB.out.2.2.1 (H2.out _ K2.cc) HF.out.2.2).mono ?_
  rintro e w4 ⟨o3, rfl, _, K3, A3, q⟩
  replace A1 := A1.kq q
  replace A2 := A2.kq q
  clear K2 q
  by_cases hn : n0 < 32
  · have HN : Hid (n0 < 32) := hn
    clear hn
    go_wp2_with fail
    refine (New_no _ _ _ n0 f0 w4 (Or.inl (A1.sl (n0 + 3) (by omega) (by have := HB.out; omega))) HN.out).mono ?_
    rintro e w5 ⟨rfl, rfl⟩
    go_wp2_with fail
    refine (New_rno _ _ _ n0 f0 w5 (H0.out _ K3.cc) HN.out).mono ?_
    rintro e w6 ⟨rfl, rfl⟩
    go_wp2_with fail
    refine (num_s 111 w6).mono ?_
    rintro e w7 ⟨rfl, rfl⟩
    go_wp2_with fail
    refine (aliveD_s w7 (HG.out _ K3.cc)).mono ?_
    rintro e w8 ⟨rfl, k8⟩
    go_wp2_with fail
    go_ret
    exact ⟨rfl, K3.cc.trans1 k8⟩
  · have HN : Hid (32 ≤ n0) := by show 32 ≤ n0; omega
    clear hn
    go_wp2_with fail
    refine (New_ok _ _ _ n0 n1 n2 f0 f1 f2 w4 (HG.out _ K3.cc) (Or.inl (A1.sl (n0 + 3) (by omega) (by have := HB.out; omega))) (Or.inl (A2.sl (n1 + 3) (by omega) (by have := HB.out; omega))) (Or.inl (A3.sl (n2 + 3) (by omega) (by have := HB.out; omega))) HN.out (by have := HB.out; omega)).mono ?_
    rintro e w5 ⟨gx, rfl, hgx, k5, BX⟩
    have K5 := K3.chg k5
    have HGX : Hid (w.heap.size ≤ gx) := Nat.le_trans K3.cc.size hgx
    clear K3 k5 A1 A2 A3 hgx
    go_wp2_with fail
    refine (New_rok _ _ _ n0 n1 n2 f0 f1 f2 w5 (H0.out _ K5.cc) (H1.out _ K5.cc) (H2.out _ K5.cc) HN.out (by have := HB.out; omega)).mono ?_
    rintro e w6 ⟨gy, rfl, hgy, k6, BY⟩
    have HGN : Hid (w.heap.size ≤ gx ∧ w.heap.size ≤ gy) := ⟨HGX.out, Nat.le_trans K5.cc.size hgy⟩
    have D6 : DS w w6 gb gx gy 3 (nK n0 n1 n2 f0 f1 f2) (nV n0 n1 n2 f0 f1 f2) 0 (nK n0 n1 n2 f0 f1 f2) (nV n0 n1 n2 f0 f1 f2) 0 := by
      have l : L64 (nK n0 n1 n2 f0 f1 f2) ∧ L64 (nV n0 n1 n2 f0 f1 f2) ∧ 0 ≤ 4096 := ⟨fun _ _ => s2K_lt _ _ _ _ _, fun _ _ => s2V_lt _ _ _ _ _, by omega⟩
      exact ⟨K5.chg k6, BX.chg k6 (by simp), BY, l, l, HGN.out.1, HGN.out.2, by have := HGL.out; have := HGN.out; omega⟩
    obtain ⟨KN, hKN⟩ : ∃ z, nK n0 n1 n2 f0 f1 f2 = z := ⟨_, rfl⟩
    obtain ⟨VX, hVX⟩ : ∃ z, nV n0 n1 n2 f0 f1 f2 = z := ⟨_, rfl⟩
    rw [hKN, hVX] at D6
    clear K5 k6 BX BY hgy hKN hVX HGX
    go_wp2_with fail
    refine (num_s 0 w6).mono ?_
    rintro e w7 ⟨rfl, rfl⟩
    go_wp2_with fail
    go_loopw [14] (fun t wr => ∃ (i K : Nat) (Ka Va : Nat → Nat) (da : Nat), i ≤ N ∧ t = .int .i64 (i : Int) ∧ DS w wr gb gx gy K Ka Va da Ka Va da ∧ K ≤ 3 + 2 * i) (fun t _ => ((N : Int) - intOf t).toNat)
    case atStart => exact ⟨0, 3, KN, VX, 0, Nat.zero_le _, rfl, D6, by omega⟩
    case round =>
      clear D6
      obtain ⟨i, K, Ka, Va, da, hi, rfl, D, hKB⟩ := hrel
      have HKB : Hid (K ≤ 3 + 2 * i) := hKB
      have HKB2 : Hid (K ≤ 2000000) := by have := HB.out; show K ≤ 2000000; omega
      have HKB3 : Hid (K + 1 ≤ 2000000) := by have := HB.out; show K + 1 ≤ 2000000; omega
      clear hKB
      by_cases h8 : i < N
      · have hI : (i : Int) < (N : Int) := by omega
        have hI0 : (0 : Int) ≤ (i : Int) := by omega
        have e1 : IntKind.i64.wrap ((i : Int) + 1) = (i : Int) + 1 := by rw [IntKind.wrap_i64]; omega
        have HI : Hid (i < N) := h8
        have HI2 : Hid (i + 1 ≤ N) := by show i + 1 ≤ N; omega
        have HBE : Hid (bn i ≤ 1048576 ∧ en i ≤ 1048576) := HBEA.out i h8
        have HSB : Hid (Se w (bv i) (bn i) (bf i)) := (HS0.out.1 i h8).1
        have HSE : Hid (Se w (ev i) (en i) (ef i)) := (HS0.out.1 i h8).2
        rcases HS0.out.2 with ⟨hz, _⟩ | ⟨sg, so, cap, he, _, _, hsg, hcl⟩
        · omega
        simp only [Value.slice.injEq] at he
        obtain ⟨rfl, _, rfl⟩ := he
        have HS : Hid (St5 w sg so N wh nn bv ev) := ⟨hsg, hcl⟩
        have cs := HS.out.cells D.cc HI.out
        have cx0 := cs.1
        clear hcl hsg h8 hi cs
        by_cases hw0 : wh i = 0
        · rw [hw0] at cx0
          clear hw0
          go_upto_region 13 with fail
          refine wp_region_held_drew (S := fun w' => Chg w w' []) (by kernel_rfl) ((D.cc).drew) (fun hHeld => ?_)
          refine take_val (v := ?_) 0 (some 77) rfl (by kernel_rfl) (by kernel_rfl) (by kernel_rfl) (fun _ _ _ h => h) rfl rfl (fun w hSw => ?_) hHeld ?_
          rotate_left
          · (go_simp; try with_reducible rfl)
          try simp only [Act.put, List.setIfInBounds_toArray, List.set_cons_zero, List.set_cons_succ]
          refine take_val (v := ?_) 1 (some 78) rfl (by kernel_rfl) (by kernel_rfl) (by kernel_rfl) (fun _ _ _ h => h) rfl rfl (fun w hSw => ?_) hHeld ?_
          rotate_left
          · (go_simp; try with_reducible rfl)
          try simp only [Act.put, List.setIfInBounds_toArray, List.set_cons_zero, List.set_cons_succ]
          refine take_val (v := ?_) 2 (some 79) rfl (by kernel_rfl) (by kernel_rfl) (by kernel_rfl) (fun _ _ _ h => h) rfl rfl (fun w hSw => ?_) hHeld ?_
          rotate_left
          · (go_simp; try with_reducible rfl)
          try simp only [Act.put, List.setIfInBounds_toArray, List.set_cons_zero, List.set_cons_succ]
          refine take_val (v := ?_) 3 (some 80) rfl (by kernel_rfl) (by kernel_rfl) (by kernel_rfl) (fun _ _ _ h => h) rfl rfl (fun w hSw => ?_) hHeld ?_
          rotate_left
          · (go_simp; try with_reducible rfl)
          try simp only [Act.put, List.setIfInBounds_toArray, List.set_cons_zero, List.set_cons_succ]
          refine take_val (v := ?_) 4 (some 81) rfl (by kernel_rfl) (by kernel_rfl) (by kernel_rfl) (fun _ _ _ h => h) rfl rfl (fun w hSw => ?_) hHeld ?_
          rotate_left
          · (go_simp; try with_reducible rfl)
          try simp only [Act.put, List.setIfInBounds_toArray, List.set_cons_zero, List.set_cons_succ]
          refine take_val (v := (.int .i64 (nn i))) 5 (some 82) rfl (by kernel_rfl) (by kernel_rfl) (by kernel_rfl) (fun _ _ _ h => h) rfl rfl (fun w hSw => ?_) hHeld ?_
          · have cs := HS.out.cells hSw HI.out
            have cx := cs.2.1
            clear cs
            (go_simp; try with_reducible rfl)
          try simp only [Act.put, List.setIfInBounds_toArray, List.set_cons_zero, List.set_cons_succ]
          refine take_val (v := ?_) 6 (some 83) rfl (by kernel_rfl) (by kernel_rfl) (by kernel_rfl) (fun _ _ _ h => h) rfl rfl (fun w hSw => ?_) hHeld ?_
          rotate_left
          · (go_simp; try with_reducible rfl)
          try simp only [Act.put, List.setIfInBounds_toArray, List.set_cons_zero, List.set_cons_succ]
          refine take_val (v := ?_) 7 (some 84) rfl (by kernel_rfl) (by kernel_rfl) (by kernel_rfl) (fun _ _ _ h => h) rfl rfl (fun w hSw => ?_) hHeld ?_
          rotate_left
          · (go_simp; try with_reducible rfl)
          try simp only [Act.put, List.setIfInBounds_toArray, List.set_cons_zero, List.set_cons_succ]
          refine take_val (v := ?_) 8 (some 85) rfl (by kernel_rfl) (by kernel_rfl) (by kernel_rfl) (fun _ _ _ h => h) rfl rfl (fun w hSw => ?_) hHeld ?_
          rotate_left
          · (go_simp; try with_reducible rfl)
          try simp only [Act.put, List.setIfInBounds_toArray, List.set_cons_zero, List.set_cons_succ]
          refine take_val (v := ?_) 9 (some 86) rfl (by kernel_rfl) (by kernel_rfl) (by kernel_rfl) (fun _ _ _ h => h) rfl rfl (fun w hSw => ?_) hHeld ?_
          rotate_left
          · (go_simp; try with_reducible rfl)
          try simp only [Act.put, List.setIfInBounds_toArray, List.set_cons_zero, List.set_cons_succ]
          refine take_val (v := (ev i)) 10 (some 87) rfl (by kernel_rfl) (by kernel_rfl) (by kernel_rfl) (fun _ _ _ h => h) rfl rfl (fun w hSw => ?_) hHeld ?_
          · have cs := HS.out.cells hSw HI.out
            have cx := cs.2.2.2
            clear cs
            (go_simp; try with_reducible rfl)
          try simp only [Act.put, List.setIfInBounds_toArray, List.set_cons_zero, List.set_cons_succ]
          refine wpAnyH_ready (rs := [11]) (by kernel_rfl) (by simp) ?_
          refine AllReadyH.cons (o := _) rfl (fun K' hK => ?_) ?_
          ·
            go_simp
            have D1 := D.drew
            refine (D1.bytes HKB2.out HBE.out.2 (HSE.out.chg hHeld)).mono ?_
            rintro e v1 ⟨o1, rfl, D2, A1, _⟩
            go_wp2_with fail
            refine hK.out _ _ (D2.cc) (fun hHeld => ?_)
            clear hK K'
            try simp only [Act.put, List.setIfInBounds_toArray, List.set_cons_zero, List.set_cons_succ]
            refine wpAnyH_ready (rs := [12]) (by kernel_rfl) (by simp) ?_
            refine AllReadyH.cons (o := _) rfl (fun K' hK => ?_) ?_
            ·
              go_simp
              refine (D2.drawX (HG.out _ hHeld) (nn i) (A1.seo D2.bx (by decide) (en i + 3) (by omega) (by have := HBE.out; omega))).mono ?_
              rintro e v2 ⟨va, rfl, NA, D3⟩
              go_wp2_with fail
              refine hK.out _ _ (D3.cc) (fun hHeld => ?_)
              clear hK K'
              try simp only [Act.put, List.setIfInBounds_toArray, List.set_cons_zero, List.set_cons_succ]
              refine take_val (v := ?_) 13 (some 76) rfl (by kernel_rfl) (by kernel_rfl) (by kernel_rfl) (fun _ _ _ h => h) rfl rfl (fun w hSw => ?_) hHeld ?_
              rotate_left
              · (go_simp; try with_reducible rfl)
              try simp only [Act.put, List.setIfInBounds_toArray, List.set_cons_zero, List.set_cons_succ]
              refine take_val (v := ?_) 14 (some 90) rfl (by kernel_rfl) (by kernel_rfl) (by kernel_rfl) (fun _ _ _ h => h) rfl rfl (fun w hSw => ?_) hHeld ?_
              rotate_left
              · (go_simp; try with_reducible rfl)
              try simp only [Act.put, List.setIfInBounds_toArray, List.set_cons_zero, List.set_cons_succ]
              refine take_val (v := ?_) 15 (some 91) rfl (by kernel_rfl) (by kernel_rfl) (by kernel_rfl) (fun _ _ _ h => h) rfl rfl (fun w hSw => ?_) hHeld ?_
              rotate_left
              · (go_simp; try with_reducible rfl)
              try simp only [Act.put, List.setIfInBounds_toArray, List.set_cons_zero, List.set_cons_succ]
              refine take_val (v := ?_) 16 (some 15) rfl (by kernel_rfl) (by kernel_rfl) (by kernel_rfl) (fun _ _ _ h => h) rfl rfl (fun w hSw => ?_) hHeld ?_
              rotate_left
              · (go_simp; try with_reducible rfl)
              try simp only [Act.put, List.setIfInBounds_toArray, List.set_cons_zero, List.set_cons_succ]
              refine take_val (v := ?_) 17 (some 16) rfl (by kernel_rfl) (by kernel_rfl) (by kernel_rfl) (fun _ _ _ h => h) rfl rfl (fun w hSw => ?_) hHeld ?_
              rotate_left
              · (go_simp; try with_reducible rfl)
              try simp only [Act.put, List.setIfInBounds_toArray, List.set_cons_zero, List.set_cons_succ]
              refine wpAnyH_done (by kernel_rfl) ?_ _
              obtain ⟨w4, rfl⟩ : ∃ z, z = v2 := ⟨v2, rfl⟩
              clear hHeld D1 D2 A1
              go_upto_region 14 with fail
              refine wp_region_held_drew (S := fun w' => Chg w w' []) (by kernel_rfl) ((D3.cc).drew) (fun hHeld => ?_)
              refine take_val (v := ?_) 0 (some 93) rfl (by kernel_rfl) (by kernel_rfl) (by kernel_rfl) (fun _ _ _ h => h) rfl rfl (fun w hSw => ?_) hHeld ?_
              rotate_left
              · (go_simp; try with_reducible rfl)
              try simp only [Act.put, List.setIfInBounds_toArray, List.set_cons_zero, List.set_cons_succ]
              refine take_val (v := ?_) 1 (some 94) rfl (by kernel_rfl) (by kernel_rfl) (by kernel_rfl) (fun _ _ _ h => h) rfl rfl (fun w hSw => ?_) hHeld ?_
              rotate_left
              · (go_simp; try with_reducible rfl)
              try simp only [Act.put, List.setIfInBounds_toArray, List.set_cons_zero, List.set_cons_succ]
              refine take_val (v := ?_) 2 (some 95) rfl (by kernel_rfl) (by kernel_rfl) (by kernel_rfl) (fun _ _ _ h => h) rfl rfl (fun w hSw => ?_) hHeld ?_
              rotate_left
              · (go_simp; try with_reducible rfl)
              try simp only [Act.put, List.setIfInBounds_toArray, List.set_cons_zero, List.set_cons_succ]
              refine take_val (v := ?_) 3 (some 96) rfl (by kernel_rfl) (by kernel_rfl) (by kernel_rfl) (fun _ _ _ h => h) rfl rfl (fun w hSw => ?_) hHeld ?_
              rotate_left
              · (go_simp; try with_reducible rfl)
              try simp only [Act.put, List.setIfInBounds_toArray, List.set_cons_zero, List.set_cons_succ]
              refine take_val (v := ?_) 4 (some 97) rfl (by kernel_rfl) (by kernel_rfl) (by kernel_rfl) (fun _ _ _ h => h) rfl rfl (fun w hSw => ?_) hHeld ?_
              rotate_left
              · (go_simp; try with_reducible rfl)
              try simp only [Act.put, List.setIfInBounds_toArray, List.set_cons_zero, List.set_cons_succ]
              refine take_val (v := (.int .i64 (nn i))) 5 (some 98) rfl (by kernel_rfl) (by kernel_rfl) (by kernel_rfl) (fun _ _ _ h => h) rfl rfl (fun w hSw => ?_) hHeld ?_
              · have cs := HS.out.cells hSw HI.out
                have cx := cs.2.1
                clear cs
                (go_simp; try with_reducible rfl)
              try simp only [Act.put, List.setIfInBounds_toArray, List.set_cons_zero, List.set_cons_succ]
              refine take_val (v := ?_) 6 (some 99) rfl (by kernel_rfl) (by kernel_rfl) (by kernel_rfl) (fun _ _ _ h => h) rfl rfl (fun w hSw => ?_) hHeld ?_
              rotate_left
              · (go_simp; try with_reducible rfl)
              try simp only [Act.put, List.setIfInBounds_toArray, List.set_cons_zero, List.set_cons_succ]
              refine take_val (v := ?_) 7 (some 100) rfl (by kernel_rfl) (by kernel_rfl) (by kernel_rfl) (fun _ _ _ h => h) rfl rfl (fun w hSw => ?_) hHeld ?_
              rotate_left
              · (go_simp; try with_reducible rfl)
              try simp only [Act.put, List.setIfInBounds_toArray, List.set_cons_zero, List.set_cons_succ]
              refine take_val (v := ?_) 8 (some 101) rfl (by kernel_rfl) (by kernel_rfl) (by kernel_rfl) (fun _ _ _ h => h) rfl rfl (fun w hSw => ?_) hHeld ?_
              rotate_left
              · (go_simp; try with_reducible rfl)
              try simp only [Act.put, List.setIfInBounds_toArray, List.set_cons_zero, List.set_cons_succ]
              refine take_val (v := ?_) 9 (some 102) rfl (by kernel_rfl) (by kernel_rfl) (by kernel_rfl) (fun _ _ _ h => h) rfl rfl (fun w hSw => ?_) hHeld ?_
              rotate_left
              · (go_simp; try with_reducible rfl)
              try simp only [Act.put, List.setIfInBounds_toArray, List.set_cons_zero, List.set_cons_succ]
              refine take_val (v := (ev i)) 10 (some 103) rfl (by kernel_rfl) (by kernel_rfl) (by kernel_rfl) (fun _ _ _ h => h) rfl rfl (fun w hSw => ?_) hHeld ?_
              · have cs := HS.out.cells hSw HI.out
                have cx := cs.2.2.2
                clear cs
                (go_simp; try with_reducible rfl)
              try simp only [Act.put, List.setIfInBounds_toArray, List.set_cons_zero, List.set_cons_succ]
              refine wpAnyH_ready (rs := [11]) (by kernel_rfl) (by simp) ?_
              refine AllReadyH.cons (o := _) rfl (fun K' hK => ?_) ?_
              ·
                go_simp
                have D4 := D3.drew
                have NA4 := NA.chg ((Chg.refl _ []).drew)
                refine (D4.drawY (nn i) ((HSE.out.seo HGN.out.2).chg ((hHeld).wide (l := [gy]))) HBE.out.2).mono ?_
                rintro e v3 ⟨vb, rfl, NB, D5, HNN⟩
                go_wp2_with fail
                refine hK.out _ _ (D5.cc) (fun hHeld => ?_)
                clear hK K'
                try simp only [Act.put, List.setIfInBounds_toArray, List.set_cons_zero, List.set_cons_succ]
                clear D4
                refine take_val (v := ?_) 12 (some 92) rfl (by kernel_rfl) (by kernel_rfl) (by kernel_rfl) (fun _ _ _ h => h) rfl rfl (fun w hSw => ?_) hHeld ?_
                rotate_left
                · (go_simp; try with_reducible rfl)
                try simp only [Act.put, List.setIfInBounds_toArray, List.set_cons_zero, List.set_cons_succ]
                refine take_val (v := ?_) 13 (some 105) rfl (by kernel_rfl) (by kernel_rfl) (by kernel_rfl) (fun _ _ _ h => h) rfl rfl (fun w hSw => ?_) hHeld ?_
                rotate_left
                · (go_simp; try with_reducible rfl)
                try simp only [Act.put, List.setIfInBounds_toArray, List.set_cons_zero, List.set_cons_succ]
                refine take_val (v := ?_) 14 (some 106) rfl (by kernel_rfl) (by kernel_rfl) (by kernel_rfl) (fun _ _ _ h => h) rfl rfl (fun w hSw => ?_) hHeld ?_
                rotate_left
                · (go_simp; try with_reducible rfl)
                try simp only [Act.put, List.setIfInBounds_toArray, List.set_cons_zero, List.set_cons_succ]
                refine take_val (v := ?_) 15 (some 17) rfl (by kernel_rfl) (by kernel_rfl) (by kernel_rfl) (fun _ _ _ h => h) rfl rfl (fun w hSw => ?_) hHeld ?_
                rotate_left
                · (go_simp; try with_reducible rfl)
                try simp only [Act.put, List.setIfInBounds_toArray, List.set_cons_zero, List.set_cons_succ]
                refine take_val (v := ?_) 16 (some 18) rfl (by kernel_rfl) (by kernel_rfl) (by kernel_rfl) (fun _ _ _ h => h) rfl rfl (fun w hSw => ?_) hHeld ?_
                rotate_left
                · (go_simp; try with_reducible rfl)
                try simp only [Act.put, List.setIfInBounds_toArray, List.set_cons_zero, List.set_cons_succ]
                refine wpAnyH_done (by kernel_rfl) ?_ _
                obtain ⟨w5, rfl⟩ : ∃ z, z = v3 := ⟨v3, rfl⟩
                have NA5 := HNN _ _ _ NA4
                clear hHeld NA NA4 HNN D3
                go_wp2_with fail
                refine (SameBytes_sl _ _ _ _ w5 NA5.sl NB.sl).mono ?_
                rintro e w6 ⟨rfl, k6⟩
                have D6 := D5.chg k6
                clear D5 k6 NA5 NB
                obtain ⟨E, hE⟩ : ∃ z, rfs (nn i) da = z := ⟨_, rfl⟩
                have hEE : (E == E) = true := by simp
                rw [hE]
                clear hE
                go_wp2_with fail
                refine (num_s E w6).mono ?_
                rintro e w7 ⟨rfl, rfl⟩
                go_wp2_with fail
                exact ⟨⟨i + 1, K + 1, _, _, _, HI2.out, by go_num, D6, by have := HKB.out; omega⟩, by have := HI.out; simp [intOf]; omega⟩
              exact AllReadyH.nil
            exact AllReadyH.nil
          exact AllReadyH.nil
        · have hq0 : (wh i == 0) = false := by simpa using hw0
          by_cases hw1 : wh i = 1
          · rw [hw1] at cx0
            clear hw0 hw1 hq0
            obtain ⟨EE, hEE⟩ : ∃ z, rE (bn i) = z := ⟨_, rfl⟩
            have HEQ : Hid (rE (bn i) = EE) := hEE
            have hee : (EE == EE) = true := by simp
            clear hEE
            go_upto_region 18 with fail
            refine wp_region_held_drew (S := fun w' => Chg w w' []) (by kernel_rfl) ((D.cc).drew) (fun hHeld => ?_)
            refine take_val (v := ?_) 0 (some 119) rfl (by kernel_rfl) (by kernel_rfl) (by kernel_rfl) (fun _ _ _ h => h) rfl rfl (fun w hSw => ?_) hHeld ?_
            rotate_left
            · (go_simp; try with_reducible rfl)
            try simp only [Act.put, List.setIfInBounds_toArray, List.set_cons_zero, List.set_cons_succ]
            refine take_val (v := ?_) 1 (some 120) rfl (by kernel_rfl) (by kernel_rfl) (by kernel_rfl) (fun _ _ _ h => h) rfl rfl (fun w hSw => ?_) hHeld ?_
            rotate_left
            · (go_simp; try with_reducible rfl)
            try simp only [Act.put, List.setIfInBounds_toArray, List.set_cons_zero, List.set_cons_succ]
            refine take_val (v := ?_) 2 (some 121) rfl (by kernel_rfl) (by kernel_rfl) (by kernel_rfl) (fun _ _ _ h => h) rfl rfl (fun w hSw => ?_) hHeld ?_
            rotate_left
            · (go_simp; try with_reducible rfl)
            try simp only [Act.put, List.setIfInBounds_toArray, List.set_cons_zero, List.set_cons_succ]
            refine take_val (v := ?_) 3 (some 122) rfl (by kernel_rfl) (by kernel_rfl) (by kernel_rfl) (fun _ _ _ h => h) rfl rfl (fun w hSw => ?_) hHeld ?_
            rotate_left
            · (go_simp; try with_reducible rfl)
            try simp only [Act.put, List.setIfInBounds_toArray, List.set_cons_zero, List.set_cons_succ]
            refine take_val (v := ?_) 4 (some 123) rfl (by kernel_rfl) (by kernel_rfl) (by kernel_rfl) (fun _ _ _ h => h) rfl rfl (fun w hSw => ?_) hHeld ?_
            rotate_left
            · (go_simp; try with_reducible rfl)
            try simp only [Act.put, List.setIfInBounds_toArray, List.set_cons_zero, List.set_cons_succ]
            refine take_val (v := (bv i)) 5 (some 124) rfl (by kernel_rfl) (by kernel_rfl) (by kernel_rfl) (fun _ _ _ h => h) rfl rfl (fun w hSw => ?_) hHeld ?_
            · have cs := HS.out.cells hSw HI.out
              have cx := cs.2.2.1
              clear cs
              (go_simp; try with_reducible rfl)
            try simp only [Act.put, List.setIfInBounds_toArray, List.set_cons_zero, List.set_cons_succ]
            refine take_val (v := ?_) 7 (some 126) rfl (by kernel_rfl) (by kernel_rfl) (by kernel_rfl) (fun _ _ _ h => h) rfl rfl (fun w hSw => ?_) hHeld ?_
            rotate_left
            · (go_simp; try with_reducible rfl)
            try simp only [Act.put, List.setIfInBounds_toArray, List.set_cons_zero, List.set_cons_succ]
            refine take_val (v := ?_) 8 (some 127) rfl (by kernel_rfl) (by kernel_rfl) (by kernel_rfl) (fun _ _ _ h => h) rfl rfl (fun w hSw => ?_) hHeld ?_
            rotate_left
            · (go_simp; try with_reducible rfl)
            try simp only [Act.put, List.setIfInBounds_toArray, List.set_cons_zero, List.set_cons_succ]
            refine take_val (v := ?_) 9 (some 128) rfl (by kernel_rfl) (by kernel_rfl) (by kernel_rfl) (fun _ _ _ h => h) rfl rfl (fun w hSw => ?_) hHeld ?_
            rotate_left
            · (go_simp; try with_reducible rfl)
            try simp only [Act.put, List.setIfInBounds_toArray, List.set_cons_zero, List.set_cons_succ]
            refine take_val (v := ?_) 10 (some 129) rfl (by kernel_rfl) (by kernel_rfl) (by kernel_rfl) (fun _ _ _ h => h) rfl rfl (fun w hSw => ?_) hHeld ?_
            rotate_left
            · (go_simp; try with_reducible rfl)
            try simp only [Act.put, List.setIfInBounds_toArray, List.set_cons_zero, List.set_cons_succ]
            refine take_val (v := (ev i)) 11 (some 130) rfl (by kernel_rfl) (by kernel_rfl) (by kernel_rfl) (fun _ _ _ h => h) rfl rfl (fun w hSw => ?_) hHeld ?_
            · have cs := HS.out.cells hSw HI.out
              have cx := cs.2.2.2
              clear cs
              (go_simp; try with_reducible rfl)
            try simp only [Act.put, List.setIfInBounds_toArray, List.set_cons_zero, List.set_cons_succ]
            refine take_val (v := ?_) 15 (some 134) rfl (by kernel_rfl) (by kernel_rfl) (by kernel_rfl) (fun _ _ _ h => h) rfl rfl (fun w hSw => ?_) hHeld ?_
            rotate_left
            · (go_simp; try with_reducible rfl)
            try simp only [Act.put, List.setIfInBounds_toArray, List.set_cons_zero, List.set_cons_succ]
            refine take_val (v := ?_) 16 (some 135) rfl (by kernel_rfl) (by kernel_rfl) (by kernel_rfl) (fun _ _ _ h => h) rfl rfl (fun w hSw => ?_) hHeld ?_
            rotate_left
            · (go_simp; try with_reducible rfl)
            try simp only [Act.put, List.setIfInBounds_toArray, List.set_cons_zero, List.set_cons_succ]
            refine take_val (v := ?_) 17 (some 136) rfl (by kernel_rfl) (by kernel_rfl) (by kernel_rfl) (fun _ _ _ h => h) rfl rfl (fun w hSw => ?_) hHeld ?_
            rotate_left
            · (go_simp; try with_reducible rfl)
            try simp only [Act.put, List.setIfInBounds_toArray, List.set_cons_zero, List.set_cons_succ]
            refine take_val (v := ?_) 18 (some 137) rfl (by kernel_rfl) (by kernel_rfl) (by kernel_rfl) (fun _ _ _ h => h) rfl rfl (fun w hSw => ?_) hHeld ?_
            rotate_left
            · (go_simp; try with_reducible rfl)
            try simp only [Act.put, List.setIfInBounds_toArray, List.set_cons_zero, List.set_cons_succ]
            refine take_val (v := ?_) 19 (some 138) rfl (by kernel_rfl) (by kernel_rfl) (by kernel_rfl) (fun _ _ _ h => h) rfl rfl (fun w hSw => ?_) hHeld ?_
            rotate_left
            · (go_simp; try with_reducible rfl)
            try simp only [Act.put, List.setIfInBounds_toArray, List.set_cons_zero, List.set_cons_succ]
            refine take_val (v := (bv i)) 20 (some 139) rfl (by kernel_rfl) (by kernel_rfl) (by kernel_rfl) (fun _ _ _ h => h) rfl rfl (fun w hSw => ?_) hHeld ?_
            · have cs := HS.out.cells hSw HI.out
              have cx := cs.2.2.1
              clear cs
              (go_simp; try with_reducible rfl)
            try simp only [Act.put, List.setIfInBounds_toArray, List.set_cons_zero, List.set_cons_succ]
            refine take_val (v := ?_) 21 (some 140) rfl (by kernel_rfl) (by kernel_rfl) (by kernel_rfl) (fun _ _ _ h => h) rfl rfl (fun w hSw => ?_) hHeld ?_
            rotate_left
            · (go_simp; try with_reducible rfl)
            try simp only [Act.put, List.setIfInBounds_toArray, List.set_cons_zero, List.set_cons_succ]
            refine take_val (v := ?_) 22 (some 141) rfl (by kernel_rfl) (by kernel_rfl) (by kernel_rfl) (fun _ _ _ h => h) rfl rfl (fun w hSw => ?_) hHeld ?_
            rotate_left
            · (go_simp; try with_reducible rfl)
            try simp only [Act.put, List.setIfInBounds_toArray, List.set_cons_zero, List.set_cons_succ]
            refine take_val (v := ?_) 23 (some 142) rfl (by kernel_rfl) (by kernel_rfl) (by kernel_rfl) (fun _ _ _ h => h) rfl rfl (fun w hSw => ?_) hHeld ?_
            rotate_left
            · (go_simp; try with_reducible rfl)
            try simp only [Act.put, List.setIfInBounds_toArray, List.set_cons_zero, List.set_cons_succ]
            refine take_val (v := ?_) 24 (some 143) rfl (by kernel_rfl) (by kernel_rfl) (by kernel_rfl) (fun _ _ _ h => h) rfl rfl (fun w hSw => ?_) hHeld ?_
            rotate_left
            · (go_simp; try with_reducible rfl)
            try simp only [Act.put, List.setIfInBounds_toArray, List.set_cons_zero, List.set_cons_succ]
            refine take_val (v := (ev i)) 25 (some 144) rfl (by kernel_rfl) (by kernel_rfl) (by kernel_rfl) (fun _ _ _ h => h) rfl rfl (fun w hSw => ?_) hHeld ?_
            · have cs := HS.out.cells hSw HI.out
              have cx := cs.2.2.2
              clear cs
              (go_simp; try with_reducible rfl)
            try simp only [Act.put, List.setIfInBounds_toArray, List.set_cons_zero, List.set_cons_succ]
            refine wpAnyH_ready (rs := [6]) (by kernel_rfl) (by simp) ?_
            refine AllReadyH.cons (o := _) rfl (fun K' hK => ?_) ?_
            ·
              go_simp
              have D1 := D.drew
              refine (D1.bytes HKB2.out HBE.out.1 (HSB.out.chg hHeld)).mono ?_
              rintro e v1 ⟨o1, rfl, D2, A1, _⟩
              go_wp2_with fail
              refine hK.out _ _ (D2.cc) (fun hHeld => ?_)
              clear hK K'
              try simp only [Act.put, List.setIfInBounds_toArray, List.set_cons_zero, List.set_cons_succ]
              refine wpAnyH_ready (rs := [12]) (by kernel_rfl) (by simp) ?_
              refine AllReadyH.cons (o := _) rfl (fun K' hK => ?_) ?_
              ·
                go_simp
                refine (D2.bytes HKB3.out HBE.out.2 (HSE.out.chg hHeld)).mono ?_
                rintro e v2 ⟨o2, rfl, D3, A2, q2⟩
                replace A1 := A1.kq q2
                go_wp2_with fail
                refine hK.out _ _ (D3.cc) (fun hHeld => ?_)
                clear hK K'
                try simp only [Act.put, List.setIfInBounds_toArray, List.set_cons_zero, List.set_cons_succ]
                refine wpAnyH_ready (rs := [13]) (by kernel_rfl) (by simp) ?_
                refine AllReadyH.cons (o := _) rfl (fun K' hK => ?_) ?_
                ·
                  go_simp
                  refine (D3.reseedX (HG.out _ hHeld) (A1.seo D3.bx (by decide) (bn i + 3) (by omega) (by have := HBE.out; omega)) (A2.seo D3.bx (by decide) (en i + 3) (by omega) (by have := HBE.out; omega)) HBE.out).mono ?_
                  rintro e v3 ⟨rfl, D4⟩
                  rw [HEQ.out]
                  go_wp2_with fail
                  refine hK.out _ _ (D4.cc) (fun hHeld => ?_)
                  clear hK K'
                  try simp only [Act.put, List.setIfInBounds_toArray, List.set_cons_zero, List.set_cons_succ]
                  clear A1 A2 q2
                  refine wpAnyH_ready (rs := [14]) (by kernel_rfl) (by simp) ?_
                  refine AllReadyH.cons (o := _) rfl (fun K' hK => ?_) ?_
                  ·
                    go_simp
                    refine (num_s EE _).mono ?_
                    rintro e v4 ⟨rfl, rfl⟩
                    go_wp2_with fail
                    refine hK.out _ _ (D4.cc) (fun hHeld => ?_)
                    clear hK K'
                    try simp only [Act.put, List.setIfInBounds_toArray, List.set_cons_zero, List.set_cons_succ]
                    refine wpAnyH_ready (rs := [26]) (by kernel_rfl) (by simp) ?_
                    refine AllReadyH.cons (o := _) rfl (fun K' hK => ?_) ?_
                    ·
                      go_simp
                      refine (D4.reseedY ((HSB.out.seo HGN.out.2).chg (hHeld.wide (l := [gy]))) ((HSE.out.seo HGN.out.2).chg (hHeld.wide (l := [gy]))) HBE.out).mono ?_
                      rintro e v6 ⟨rfl, D5⟩
                      rw [HEQ.out]
                      go_wp2_with fail
                      refine hK.out _ _ (D5.cc) (fun hHeld => ?_)
                      clear hK K'
                      try simp only [Act.put, List.setIfInBounds_toArray, List.set_cons_zero, List.set_cons_succ]
                      refine take_val (v := ?_) 27 (some 146) rfl (by kernel_rfl) (by kernel_rfl) (by kernel_rfl) (fun _ _ _ h => h) rfl rfl (fun w hSw => ?_) hHeld ?_
                      rotate_left
                      · (go_simp; try with_reducible rfl)
                      try simp only [Act.put, List.setIfInBounds_toArray, List.set_cons_zero, List.set_cons_succ]
                      refine wpAnyH_done (by kernel_rfl) ?_ _
                      obtain ⟨w5, rfl⟩ : ∃ z, z = v6 := ⟨v6, rfl⟩
                      clear hHeld D1 D2 D3 D4
                      go_wp2_with fail
                      exact ⟨⟨i + 1, K + 1 + 1, _, _, _, HI2.out, by go_num, D5, by have := HKB.out; omega⟩, by have := HI.out; simp [intOf]; omega⟩
                    exact AllReadyH.nil
                  exact AllReadyH.nil
                exact AllReadyH.nil
              exact AllReadyH.nil
            exact AllReadyH.nil
          · have hq1 : (wh i == 1) = false := by simpa using hw1
            by_cases hw2 : wh i = 2
            · rw [hw2] at cx0
              clear hw0 hw1 hw2 hq0 hq1
              have HNO := D.lx
              go_wp2_with fail
              refine (D.randX (HG.out _ D.cc)).mono ?_
              rintro e w8 ⟨rfl, D8⟩
              obtain ⟨RO, hRO⟩ : ∃ z, rO Ka Va da = z := ⟨_, rfl⟩
              obtain ⟨E, hE⟩ : ∃ z, rfs 32 da = z := ⟨_, rfl⟩
              have HRE : Hid (rO Ka Va da = RO ∧ rfs 32 da = E) := ⟨hRO, hE⟩
              have heq := eq_rn RO
              have hEE : (E == E) = true := by simp
              rw [hRO, hE]
              clear hRO hE D
              go_upto_region 22 with (first
                | (refine store_w BR rfl 69 _ _ (yC 32 RO) rfl rfl rfl (by rw [yC_size]; exact randInfo) (by rw [yC_size, yC_size]) (yC_one 32 _) ?_; intro w10 BR10 k10)
                | (with_reducible refine alloc_w rfl 69 rfl (.agg (yC 32 (fun _ => 0))) zeroRand (yC 32 (fun _ => 0)) rfl ?_; intro ra w9 hra BR k9))
              have D10 := D8.chg (k9.new k10 hra)
              clear D8 k9 k10 BR
              go_wp2_with fail
              refine D10.randY.mono ?_
              rintro e w11 ⟨rfl, D11, k11⟩
              have BR11 := BR10.chg k11 (fun hm => BR10.ne D10.yb (by decide) (by simpa using hm))
              rw [HRE.out.1, HRE.out.2]
              clear D10 BR10 k11
              go_upto_region 23 with (first
                | (refine store_w BS rfl 69 _ _ (yC 32 RO) rfl rfl rfl (by rw [yC_size]; exact randInfo) (by rw [yC_size, yC_size]) (yC_one 32 _) ?_; intro w13 BS13 k13)
                | (with_reducible refine alloc_w rfl 69 rfl (.agg (yC 32 (fun _ => 0))) zeroRand (yC 32 (fun _ => 0)) rfl ?_; intro rb w12 hrb BS k12))
              have HNE : Hid (ra < rb) := Nat.lt_of_lt_of_le BR11.lt hrb
              have D13 := D11.chg (k12.new k13 hrb)
              have BR13 := (BR11.chg k12 (by simp)).chg k13 (by have := HNE.out; simp; omega)
              clear D11 BR11 k12 k13 BS hrb
              go_wp2_with (first
                | (with_reducible refine load_b BR13 69 (.tmp 19) Tryd.underlying69 ?_ ?_ ?_ ?_ ?_ ?_
                   · rfl
                   · rfl
                   · rfl
                   · rfl
                   · (rw [yC_size]; exact randInfo))
                | (with_reducible refine load_b BS13 69 (.tmp 21) Tryd.underlying69 ?_ ?_ ?_ ?_ ?_ ?_
                   · rfl
                   · rfl
                   · rfl
                   · rfl
                   · (rw [yC_size]; exact randInfo)))
              refine (num_s E w13).mono ?_
              rintro e w14 ⟨rfl, rfl⟩
              go_wp2_with fail
              exact ⟨⟨i + 1, K, _, _, _, HI2.out, by go_num, D13, by have := HKB.out; omega⟩, by have := HI.out; simp [intOf]; omega⟩
            · have hq2 : (wh i == 2) = false := by simpa using hw2
              by_cases hw3 : wh i = 3
              · rw [hw3] at cx0
                clear hw0 hw1 hw2 hw3 hq0 hq1 hq2
                have HE4 : Hid (IntKind.i64.wrap (4096 - (da : Int)) = 4096 - (da : Int)) := by have := D.lx.2.2; show IntKind.i64.wrap _ = _; rw [IntKind.wrap_i64]; omega
                go_upto_region 26 with fail
                refine wp_region_held_drew (S := fun w' => Chg wr w' []) (by kernel_rfl) ((Chg.refl wr []).drew) (fun hHeld => ?_)
                refine take_val (v := ?_) 0 (some 170) rfl (by kernel_rfl) (by kernel_rfl) (by kernel_rfl) (fun _ _ _ h => h) rfl rfl (fun w hSw => ?_) hHeld ?_
                rotate_left
                · (go_simp; try with_reducible rfl)
                try simp only [Act.put, List.setIfInBounds_toArray, List.set_cons_zero, List.set_cons_succ]
                refine take_val (v := ?_) 2 (some 172) rfl (by kernel_rfl) (by kernel_rfl) (by kernel_rfl) (fun _ _ _ h => h) rfl rfl (fun w hSw => ?_) hHeld ?_
                rotate_left
                · (go_simp; try with_reducible rfl)
                try simp only [Act.put, List.setIfInBounds_toArray, List.set_cons_zero, List.set_cons_succ]
                refine take_val (v := ?_) 3 (some 173) rfl (by kernel_rfl) (by kernel_rfl) (by kernel_rfl) (fun _ _ _ h => h) rfl rfl (fun w hSw => ?_) hHeld ?_
                rotate_left
                · (go_simp; try with_reducible rfl)
                try simp only [Act.put, List.setIfInBounds_toArray, List.set_cons_zero, List.set_cons_succ]
                refine take_val (v := ?_) 4 (some 174) rfl (by kernel_rfl) (by kernel_rfl) (by kernel_rfl) (fun _ _ _ h => h) rfl rfl (fun w hSw => ?_) hHeld ?_
                rotate_left
                · (go_simp; try with_reducible rfl)
                try simp only [Act.put, List.setIfInBounds_toArray, List.set_cons_zero, List.set_cons_succ]
                refine take_val (v := (.int .i64 (da : Int))) 5 (some 175) rfl (by kernel_rfl) (by kernel_rfl) (by kernel_rfl) (fun _ _ _ h => h) rfl rfl (fun w hSw => ?_) hHeld ?_
                · have cx := rC_dc (D.yb.chg hSw (by simp))
                  (go_simp; try with_reducible rfl)
                try simp only [Act.put, List.setIfInBounds_toArray, List.set_cons_zero, List.set_cons_succ]
                refine take_val (v := (.int .i64 (4096 - (da : Int)))) 6 (some 176) rfl (by kernel_rfl) (by kernel_rfl) (by kernel_rfl) (fun _ _ _ h => h) rfl rfl (fun w hSw => ?_) hHeld ?_
                · have ee := HE4.out
                  (go_simp; try with_reducible rfl)
                try simp only [Act.put, List.setIfInBounds_toArray, List.set_cons_zero, List.set_cons_succ]
                refine wpAnyH_ready (rs := [1]) (by kernel_rfl) (by simp) ?_
                refine AllReadyH.cons (o := _) rfl (fun K' hK => ?_) ?_
                ·
                  go_simp
                  refine (Left_s gx Ka Va da D.lx.2.2 _ (D.chg hHeld).bx).mono ?_
                  rintro e v1 ⟨rfl, rfl⟩
                  go_wp2_with fail
                  refine hK.out _ _ (hHeld) (fun hHeld => ?_)
                  clear hK K'
                  try simp only [Act.put, List.setIfInBounds_toArray, List.set_cons_zero, List.set_cons_succ]
                  refine take_val (v := ?_) 7 (some 177) rfl (by kernel_rfl) (by kernel_rfl) (by kernel_rfl) (fun _ _ _ h => h) rfl rfl (fun w hSw => ?_) hHeld ?_
                  rotate_left
                  · (go_simp; try with_reducible rfl)
                  try simp only [Act.put, List.setIfInBounds_toArray, List.set_cons_zero, List.set_cons_succ]
                  refine wpAnyH_done (by kernel_rfl) ?_ _
                  have DF := D.chg hHeld
                  clear hHeld D
                  go_wp2_with fail
                  exact ⟨⟨i + 1, K, _, _, _, HI2.out, by go_num, DF, by have := HKB.out; omega⟩, by have := HI.out; simp [intOf]; omega⟩
                exact AllReadyH.nil
              · have hq3 : (wh i == 3) = false := by simpa using hw3
                by_cases hw4 : wh i = 4
                · rw [hw4] at cx0
                  clear hw0 hw1 hw2 hw3 hw4 hq0 hq1 hq2 hq3
                  obtain ⟨NN, hNN⟩ : ∃ z, nn i = z := ⟨_, rfl⟩
                  have HC1 : Hid (∀ W, Chg w W [] → W.cell? ⟨sg, so + i * 4 + 1, none⟩ = some (.int .i64 NN)) := fun W k => by rw [← hNN]; exact (HS.out.cells k HI.out).2.1
                  clear hNN
                  go_wp2_with fail
                  go_loopw [23] (fun t wr => ∃ (q : Nat) (Kb Vb : Nat → Nat) (db : Nat), q ≤ 5000 ∧ t = .int .i64 (q : Int) ∧ DS w wr gb gx gy K Kb Vb db Kb Vb db) (fun t _ => ((5000 : Int) - intOf t).toNat)
                  case atStart => exact ⟨0, Ka, Va, da, by omega, rfl, D⟩
                  case round =>
                    clear D cx0
                    obtain ⟨q, Kb, Vb, db, hq, rfl, D⟩ := hrel
                    have cx1 := HC1.out _ D.cc
                    by_cases hqq : (q : Int) < NN ∧ q < 5000
                    · have hJ : (q : Int) < NN := hqq.1
                      have hJ2 : (q : Int) < 5000 := by omega
                      have HQ : Hid (q < 5000 ∧ q + 1 ≤ 5000) := ⟨hqq.2, by omega⟩
                      have e2 : IntKind.i64.wrap ((q : Int) + 1) = (q : Int) + 1 := by rw [IntKind.wrap_i64]; omega
                      clear hqq hq
                      go_wp2_with fail
                      refine (D.drawX (HG.out _ D.cc) 0 (seo_nil _ _ (fun _ => 0))).mono ?_
                      rintro e w8 ⟨r, rfl, N8, D8⟩
                      have a0 : aN 0 db = 0 := by unfold aN; split <;> rfl
                      rw [a0] at N8
                      obtain ⟨pr, cr, rfl⟩ := Se.form (Or.inl N8.sl)
                      obtain ⟨E, hE⟩ : ∃ z, rfs 0 db = z := ⟨_, rfl⟩
                      have HE : Hid (rfs 0 db = E) := hE
                      have hEE : (E == E) = true := by simp
                      rw [hE]
                      clear N8 D hE a0 cx1
                      go_wp2_with fail
                      refine (D8.drawY 0 (seo_nil _ _ (fun _ => 0)) (by omega)).mono ?_
                      rintro e w9 ⟨r2, rfl, _, D9, _⟩
                      rw [HE.out]
                      clear D8
                      go_wp2_with fail
                      refine (num_s E w9).mono ?_
                      rintro e w10 ⟨rfl, rfl⟩
                      go_wp2_with fail
                      exact ⟨⟨q + 1, _, _, _, HQ.out.2, by go_num, D9⟩, by have := HQ.out; simp [intOf]; omega⟩
                    · have hz' : ¬ (q : Int) < NN ∨ ((q : Int) < NN ∧ ¬ (q : Int) < 5000) := by omega
                      clear hqq hq
                      rcases hz' with hJ | ⟨hJ, hJ2⟩
                      all_goals
                        go_wp2_with fail
                        exact ⟨⟨i + 1, K, _, _, _, HI2.out, by go_num, D, by have := HKB.out; omega⟩, by have := HI.out; simp [intOf]; omega⟩
                · have hq4 : (wh i == 4) = false := by simpa using hw4
                  obtain ⟨WW, hWW⟩ : ∃ z, wh i = z := ⟨_, rfl⟩
                  rw [hWW] at cx0 hq0 hq1 hq2 hq3 hq4
                  clear hw0 hw1 hw2 hw3 hw4 hWW
                  go_wp2_with fail
                  exact ⟨⟨i + 1, K, _, _, _, HI2.out, by go_num, D, by have := HKB.out; omega⟩, by have := HI.out; simp [intOf]; omega⟩
      · have hI : ¬ (i : Int) < (N : Int) := by omega
        have HKE : Hid (K ≤ 2000000) := HKB2.out
        clear hi h8
        go_wp2_with fail
        refine (D.drawX (HG.out _ D.cc) 9 (seo_nil _ _ (fun _ => 0))).mono ?_
        rintro e w8 ⟨va, rfl, NA, D8⟩
        clear D
        go_wp2_with fail
        refine (D8.drawY 9 (seo_nil _ _ (fun _ => 0)) (by omega)).mono ?_
        rintro e wq ⟨vb, rfl, NB, DQ, HNN⟩
        replace NA := HNN _ _ _ NA
        obtain ⟨KQ, hKQ⟩ : ∃ z, aK Ka Va da 9 0 (fun _ => 0) = z := ⟨_, rfl⟩
        obtain ⟨VQ, hVQ⟩ : ∃ z, aV Ka Va da 9 0 (fun _ => 0) = z := ⟨_, rfl⟩
        obtain ⟨dQ, hdQ⟩ : ∃ z, aD 9 da = z := ⟨_, rfl⟩
        obtain ⟨A, hA⟩ : ∃ z, aN 9 da = z := ⟨_, rfl⟩
        obtain ⟨F, hF⟩ : ∃ z, dO Ka Va 0 (fun _ => 0) = z := ⟨_, rfl⟩
        rw [hKQ, hVQ, hdQ] at DQ
        rw [hA, hF] at NA NB
        have HE4 : Hid (IntKind.i64.wrap (4096 - (dQ : Int)) = 4096 - (dQ : Int)) := by have := DQ.lx.2.2; show IntKind.i64.wrap _ = _; rw [IntKind.wrap_i64]; omega
        clear D8 HNN hKQ hVQ hdQ hA hF
        go_upto_region 38 with fail
        refine wp_region_held_drew (S := fun w' => Chg wq w' []) (by kernel_rfl) ((Chg.refl wq []).drew) (fun hHeld => ?_)
        refine take_val (v := ?_) 0 (some 222) rfl (by kernel_rfl) (by kernel_rfl) (by kernel_rfl) (fun _ _ _ h => h) rfl rfl (fun w hSw => ?_) hHeld ?_
        rotate_left
        · (go_simp; try with_reducible rfl)
        try simp only [Act.put, List.setIfInBounds_toArray, List.set_cons_zero, List.set_cons_succ]
        refine take_val (v := ?_) 1 (some 223) rfl (by kernel_rfl) (by kernel_rfl) (by kernel_rfl) (fun _ _ _ h => h) rfl rfl (fun w hSw => ?_) hHeld ?_
        rotate_left
        · (go_simp; try with_reducible rfl)
        try simp only [Act.put, List.setIfInBounds_toArray, List.set_cons_zero, List.set_cons_succ]
        refine wpAnyH_ready (rs := [2]) (by kernel_rfl) (by simp) ?_
        refine AllReadyH.cons (o := _) rfl (fun K' hK => ?_) ?_
        ·
          go_simp
          refine (SameBytes_sl _ _ A F _ (NA.sl.chg hHeld (Off.nil _)) (NB.sl.chg hHeld (Off.nil _))).mono ?_
          rintro e v7 ⟨rfl, k7⟩
          go_wp2_with fail
          refine hK.out _ _ (hHeld.trans1 k7) (fun hHeld => ?_)
          clear hK K'
          try simp only [Act.put, List.setIfInBounds_toArray, List.set_cons_zero, List.set_cons_succ]
          refine take_val (v := ?_) 3 (some 225) rfl (by kernel_rfl) (by kernel_rfl) (by kernel_rfl) (fun _ _ _ h => h) rfl rfl (fun w hSw => ?_) hHeld ?_
          rotate_left
          · (go_simp; try with_reducible rfl)
          try simp only [Act.put, List.setIfInBounds_toArray, List.set_cons_zero, List.set_cons_succ]
          refine take_val (v := ?_) 4 (some 226) rfl (by kernel_rfl) (by kernel_rfl) (by kernel_rfl) (fun _ _ _ h => h) rfl rfl (fun w hSw => ?_) hHeld ?_
          rotate_left
          · (go_simp; try with_reducible rfl)
          try simp only [Act.put, List.setIfInBounds_toArray, List.set_cons_zero, List.set_cons_succ]
          refine take_val (v := ?_) 6 (some 228) rfl (by kernel_rfl) (by kernel_rfl) (by kernel_rfl) (fun _ _ _ h => h) rfl rfl (fun w hSw => ?_) hHeld ?_
          rotate_left
          · (go_simp; try with_reducible rfl)
          try simp only [Act.put, List.setIfInBounds_toArray, List.set_cons_zero, List.set_cons_succ]
          refine take_val (v := ?_) 7 (some 229) rfl (by kernel_rfl) (by kernel_rfl) (by kernel_rfl) (fun _ _ _ h => h) rfl rfl (fun w hSw => ?_) hHeld ?_
          rotate_left
          · (go_simp; try with_reducible rfl)
          try simp only [Act.put, List.setIfInBounds_toArray, List.set_cons_zero, List.set_cons_succ]
          refine take_val (v := ?_) 8 (some 230) rfl (by kernel_rfl) (by kernel_rfl) (by kernel_rfl) (fun _ _ _ h => h) rfl rfl (fun w hSw => ?_) hHeld ?_
          rotate_left
          · (go_simp; try with_reducible rfl)
          try simp only [Act.put, List.setIfInBounds_toArray, List.set_cons_zero, List.set_cons_succ]
          refine take_val (v := (.int .i64 (dQ : Int))) 9 (some 231) rfl (by kernel_rfl) (by kernel_rfl) (by kernel_rfl) (fun _ _ _ h => h) rfl rfl (fun w hSw => ?_) hHeld ?_
          · have cx := rC_dc (DQ.yb.chg hSw (by simp))
            (go_simp; try with_reducible rfl)
          try simp only [Act.put, List.setIfInBounds_toArray, List.set_cons_zero, List.set_cons_succ]
          refine take_val (v := (.int .i64 (4096 - (dQ : Int)))) 10 (some 232) rfl (by kernel_rfl) (by kernel_rfl) (by kernel_rfl) (fun _ _ _ h => h) rfl rfl (fun w hSw => ?_) hHeld ?_
          · have ee := HE4.out
            (go_simp; try with_reducible rfl)
          try simp only [Act.put, List.setIfInBounds_toArray, List.set_cons_zero, List.set_cons_succ]
          refine wpAnyH_ready (rs := [5]) (by kernel_rfl) (by simp) ?_
          refine AllReadyH.cons (o := _) rfl (fun K' hK => ?_) ?_
          ·
            go_simp
            refine (Left_s gx KQ VQ dQ DQ.lx.2.2 _ (DQ.chg hHeld).bx).mono ?_
            rintro e v8 ⟨rfl, rfl⟩
            go_wp2_with fail
            refine hK.out _ _ (hHeld) (fun hHeld => ?_)
            clear hK K'
            try simp only [Act.put, List.setIfInBounds_toArray, List.set_cons_zero, List.set_cons_succ]
            refine take_val (v := ?_) 11 (some 233) rfl (by kernel_rfl) (by kernel_rfl) (by kernel_rfl) (fun _ _ _ h => h) rfl rfl (fun w hSw => ?_) hHeld ?_
            rotate_left
            · (go_simp; try with_reducible rfl)
            try simp only [Act.put, List.setIfInBounds_toArray, List.set_cons_zero, List.set_cons_succ]
            refine take_val (v := ?_) 12 (some 234) rfl (by kernel_rfl) (by kernel_rfl) (by kernel_rfl) (fun _ _ _ h => h) rfl rfl (fun w hSw => ?_) hHeld ?_
            rotate_left
            · (go_simp; try with_reducible rfl)
            try simp only [Act.put, List.setIfInBounds_toArray, List.set_cons_zero, List.set_cons_succ]
            refine take_val (v := ?_) 13 (some 235) rfl (by kernel_rfl) (by kernel_rfl) (by kernel_rfl) (fun _ _ _ h => h) rfl rfl (fun w hSw => ?_) hHeld ?_
            rotate_left
            · (go_simp; try with_reducible rfl)
            try simp only [Act.put, List.setIfInBounds_toArray, List.set_cons_zero, List.set_cons_succ]
            refine wpAnyH_ready (rs := [14]) (by kernel_rfl) (by simp) ?_
            refine AllReadyH.cons (o := _) rfl (fun K' hK => ?_) ?_
            ·
              go_simp
              refine ((DQ.chg hHeld).ks.intact HKE.out).mono ?_
              rintro e v9 ⟨rfl, k9⟩
              go_wp2_with fail
              refine hK.out _ _ (hHeld.trans1 k9) (fun hHeld => ?_)
              clear hK K'
              try simp only [Act.put, List.setIfInBounds_toArray, List.set_cons_zero, List.set_cons_succ]
              refine take_val (v := ?_) 15 (some 237) rfl (by kernel_rfl) (by kernel_rfl) (by kernel_rfl) (fun _ _ _ h => h) rfl rfl (fun w hSw => ?_) hHeld ?_
              rotate_left
              · (go_simp; try with_reducible rfl)
              try simp only [Act.put, List.setIfInBounds_toArray, List.set_cons_zero, List.set_cons_succ]
              refine take_val (v := ?_) 16 (some 238) rfl (by kernel_rfl) (by kernel_rfl) (by kernel_rfl) (fun _ _ _ h => h) rfl rfl (fun w hSw => ?_) hHeld ?_
              rotate_left
              · (go_simp; try with_reducible rfl)
              try simp only [Act.put, List.setIfInBounds_toArray, List.set_cons_zero, List.set_cons_succ]
              refine wpAnyH_ready (rs := [17]) (by kernel_rfl) (by simp) ?_
              refine AllReadyH.cons (o := _) rfl (fun K' hK => ?_) ?_
              ·
                go_simp
                refine (aliveD_s _ (HG.out _ (DQ.cc.trans1 hHeld))).mono ?_
                rintro e v10 ⟨rfl, k10⟩
                go_wp2_with fail
                refine hK.out _ _ (hHeld.trans1 k10) (fun hHeld => ?_)
                clear hK K'
                try simp only [Act.put, List.setIfInBounds_toArray, List.set_cons_zero, List.set_cons_succ]
                refine take_val (v := ?_) 18 (some 240) rfl (by kernel_rfl) (by kernel_rfl) (by kernel_rfl) (fun _ _ _ h => h) rfl rfl (fun w hSw => ?_) hHeld ?_
                rotate_left
                · (go_simp; try with_reducible rfl)
                try simp only [Act.put, List.setIfInBounds_toArray, List.set_cons_zero, List.set_cons_succ]
                refine take_val (v := ?_) 19 (some 8) rfl (by kernel_rfl) (by kernel_rfl) (by kernel_rfl) (fun _ _ _ h => h) rfl rfl (fun w hSw => ?_) hHeld ?_
                rotate_left
                · (go_simp; try with_reducible rfl)
                try simp only [Act.put, List.setIfInBounds_toArray, List.set_cons_zero, List.set_cons_succ]
                refine wpAnyH_done (by kernel_rfl) ?_ _
                have CF := DQ.cc.trans1 hHeld
                clear hHeld DQ NA NB
                go_wp2_with fail
                go_ret
                exact ⟨rfl, CF⟩
              exact AllReadyH.nil
            exact AllReadyH.nil
          exact AllReadyH.nil
        exact AllReadyH.nil
end Go.Proofs.YthpfdnkcepfbaaaDoor
