/- Joined: H24, H29. -/
import Derived.Test.YthpfdnkcepfbaaaDoorMgO
import Derived.Test.YthpfdnkcepfbaaaDoorMgQ
import Derived.Test.YthpfdnkcepfbaaaDoorMgM
/- rimeref03.Sum. -/
set_option linter.unusedVariables false
set_option linter.unusedSimpArgs false
set_option linter.unnecessarySimpa false
namespace Go.Proofs.YthpfdnkcepfbaaaDoor
open Go.RowKit

set_option maxHeartbeats 8000000 in
set_option maxRecDepth 100000 in
theorem Sum_r (v : Value) (M : Nat) (u : Nat → Nat) (w : World) (hM : M ≤ 140737488355328) (hv : Sl w v M u) :
    Calls Tryd.prog 47 #[v] w fun e w' => e = .returned (.agg (yC 64 (sha u M))) ∧ Chg w w' [] := by
  have HML : Hid (M ≤ 140737488356000) := by show M ≤ 140737488356000; omega
  have HWR : Hid (∀ w, Calls Tryd.prog 98 #[] w fun e w' => e = .returned (.agg (vC 8 IV)) ∧ Chg w w' []) := Words_r
  obtain ⟨s, hs⟩ : ∃ s, IV = s := ⟨_, rfl⟩
  have HIV : Hid (IV = s) := hs
  have HUS : Hid (∀ i, i < 8 → U (s i)) := by rw [← hs]; exact IV_lt
  rw [hs] at HWR
  have HVS : Hid ((vC 8 s).size = 8) := vC_size _ _
  have HVO : Hid ((vC 8 s).all (·.oneCell') = true) := vC_one _ _
  obtain ⟨c8s, hc8s⟩ : ∃ c, vC 8 s = c := ⟨_, rfl⟩
  have HVC : Hid (vC 8 s = c8s) := hc8s
  rw [hc8s] at HVS HVO HWR
  obtain ⟨p, cp, rfl, hpf0⟩ := hv.frm
  have G0 := Blk.new w z64 47
  have C0 : Chg w (w.alloc (.cells z64 47)) [] := (Chg.refl w []).alloc _
  have HOV : Hid (∀ x, w.heap.size ≤ x → Off (.slice p M cp) [x]) := fun x hx => hv.new [x] (by simpa using hx)
  have HPW : Hid (∀ g o, p = some ⟨g, o, none⟩ → 0 < M → g < w.heap.size) := fun g o he h0 => by
    obtain ⟨g', o', he', _, _, hb⟩ := hpf0 h0
    rw [he] at he'
    simp only [Option.some.injEq, Addr.mk.injEq] at he'
    have := hb.lt
    omega
  clear hs hc8s hM hpf0
  go_enter Tryd.func47, Tryd.ntmps47
  go_wp2_with fail
  try (change Calls Tryd.prog _ _ (w.alloc (.cells z64 47)) _)
  generalize w.alloc (.cells z64 47) = w0 at *
  refine (HWR.out _).mono ?_
  rintro e w3 ⟨rfl, k3⟩
  have G3 := G0.chg k3 (by simp)
  replace C0 := C0.trans1 k3
  have N3 := Blk.new w3 z8 155
  have HD0 : Hid (w.heap.size < w3.heap.size) := G3.lt
  have K3 : Chg w3 ((w3.alloc (.cells z8 155)).setRow w3.heap.size c8s) [] := ((Chg.refl w3 []).alloc _).setRowNew (Nat.le_refl _) _
  have N4 : Blk ((w3.alloc (.cells z8 155)).setRow w3.heap.size c8s) w3.heap.size (vC 8 s) 155 := (N3.setRow c8s).to HVC.out.symm
  replace G3 := G3.chg K3 (by simp)
  replace C0 := C0.trans1 K3
  have HSL0 := hv.chg C0 (Off.nil _)
  clear k3 K3 G0
  go_wp2_with (refine wpList_store_row rfl 155 _ _ rfl w3.heap.size c8s rfl rfl 155 _ N3 (by rw [HVS.out]; exact S8Info) (by rw [HVS.out]; rfl) HVO.out ?_)
  try (change Code.wp _ _ _ _ ((w3.alloc (.cells z8 155)).setRow w3.heap.size c8s))
  generalize ((w3.alloc (.cells z8 155)).setRow w3.heap.size c8s) = y at *
  generalize w3.heap.size = sb at *
  have HSL : Hid (Sl y (.slice p M cp) M u) := HSL0
  have HSLO : Hid (Off (.slice p M cp) [sb]) := HOV.out sb (by have := HD0.out; omega)
  have HPF : Hid (0 < M → ∃ g o, p = some ⟨g, o, none⟩ ∧ M ≤ cp ∧ cp ≤ 9223372036854775807 ∧ ¬ g = sb ∧ Bs y g o M u) := fun h => by
    obtain ⟨p', cp', he, hpf⟩ := HSL0.frm
    simp only [Value.slice.injEq, true_and] at he
    obtain ⟨rfl, rfl⟩ := he
    obtain ⟨g, o, rfl, h1, h2, h3⟩ := hpf h
    exact ⟨g, o, rfl, h1, h2, fun hx => HSLO.out g o M _ rfl (by simp [hx]), h3⟩
  have HBs : Hid (w.heap.size ≤ sb) := by have := HD0.out; show w.heap.size ≤ sb; omega
  have HD6 : Hid (¬ w.heap.size = sb) := by have := HD0.out; show ¬ w.heap.size = sb; omega
  obtain ⟨gd, hgd⟩ : ∃ b, w.heap.size = b := ⟨_, rfl⟩
  have HBd : Hid (w.heap.size ≤ gd) := Nat.le_of_eq hgd
  rw [hgd] at G3 HD6
  rw [hgd]
  have SB0 : Blk y sb (vC 8 (run KK s u 0)) 155 := N4
  clear N3 N4 HSL0 HVO HVS hgd hv
  go_loopw [4] (fun t wr => ∃ j q : Nat, 128 * j = q ∧ q ≤ M ∧ t = .int .i64 (q : Int) ∧ Blk wr sb (vC 8 (run KK s u j)) 155 ∧ Chg y wr [sb]) (fun t _ => ((M : Int) - intOf t).toNat)
  case atStart => exact ⟨0, 0, rfl, Nat.zero_le _, rfl, SB0, Chg.refl _ _⟩
  case round =>
    clear SB0
    obtain ⟨j, q, hjq, hqM, rfl, b0, c0⟩ := hrel
    by_cases h9 : q + 128 ≤ M
    · have hI2 : (q : Int) + 128 ≤ (M : Int) := by omega
      have e8 : IntKind.i64.wrap ((q : Int) + 128) = (q : Int) + 128 := by have := HML.out; rw [IntKind.wrap_i64]; omega
      have hn8 : ((q : Int) + 128).toNat = q + 128 := by omega
      have hI6 : (0 : Int) ≤ (q : Int) + 128 := by omega
      have hI0 : (0 : Int) ≤ (q : Int) := by omega
      have hI7 : (q : Int) ≤ (q : Int) + 128 := by omega
      obtain ⟨g, o, rfl, hc1, hc2, hgs, hB⟩ := HPF.out (by omega)
      have hI3 : (M : Int) ≤ (cp : Int) := by omega
      have hI5 : (q : Int) + 128 ≤ (cp : Int) := by omega
      have hci : ¬ cp = q := by omega
      have hcpq : 128 ≤ cp - q := by omega
      have BK : Hid (Bs wr g (o + q) 128 (fun i => u (q + i))) := (hB.chg c0 (by simpa using hgs)).sub q 128 h9
      have us := run_lt (k := KK) (u := u) HUS.out j
      have HRN : Hid (vC 8 (run KK s u (j + 1)) = vC 8 (cmp KK (run KK s u j) fun i => u (q + i))) := by subst hjq; rfl
      have HBLK : Hid (∀ w, Bs w g (o + q) 128 (fun i => u (q + i)) → Calls Tryd.prog 99 #[.agg (vC 8 (run KK s u j)), .slice (some ⟨g, o + q, none⟩) 128 (cp - q)] w fun e w' => e = .returned (.agg (vC 8 (cmp KK (run KK s u j) fun i => u (q + i)))) ∧ Chg w w' []) := fun w hb => block_r _ _ g (o + q) (cp - q) w us hcpq hb
      have HSZ : Hid ((vC 8 (run KK s u j)).size = 8) := vC_size _ _
      have HSZ2 : Hid ((vC 8 (cmp KK (run KK s u j) fun i => u (q + i))).size = 8) := vC_size _ _
      have HON : Hid ((vC 8 (cmp KK (run KK s u j) fun i => u (q + i))).all (·.oneCell') = true) := vC_one _ _
      obtain ⟨cs, hcs⟩ : ∃ cs, vC 8 (run KK s u j) = cs := ⟨_, rfl⟩
      obtain ⟨ct, hct⟩ : ∃ ct, vC 8 (cmp KK (run KK s u j) fun i => u (q + i)) = ct := ⟨_, rfl⟩
      rw [hcs, hct] at HBLK
      rw [hcs] at HSZ b0
      rw [hct] at HSZ2 HRN HON
      have HJ : Hid (128 * (j + 1) = q + 128) := by show 128 * (j + 1) = q + 128; omega
      have H9 : Hid (q + 128 ≤ M) := h9
      clear hjq hqM h9 us hcs hct hB hc2
      go_wp2_with fail
      refine wp_region_held_drew (S := fun w' => Chg wr w' [sb]) (by kernel_rfl) ((Chg.refl wr _).drew) (fun hHeld => ?_)
      refine take_val (v := ?_) 1 (some 12) rfl (by kernel_rfl) (by kernel_rfl) (by kernel_rfl) (fun _ _ _ h => h) rfl rfl (fun w hSw => ?_) hHeld ?_
      rotate_left
      · (go_simp; try with_reducible rfl)
      try simp only [Act.put, List.setIfInBounds_toArray, List.set_cons_zero, List.set_cons_succ]
      refine take_val (v := ?_) 2 (some 13) rfl (by kernel_rfl) (by kernel_rfl) (by kernel_rfl) (fun _ _ _ h => h) rfl rfl (fun w hSw => ?_) hHeld ?_
      rotate_left
      · (go_simp; try with_reducible rfl)
      try simp only [Act.put, List.setIfInBounds_toArray, List.set_cons_zero, List.set_cons_succ]
      refine take_val (v := ?_) 3 (some 14) rfl (by kernel_rfl) (by kernel_rfl) (by kernel_rfl) (fun _ _ _ h => h) rfl rfl (fun w hSw => ?_) hHeld ?_
      rotate_left
      · (go_simp; try with_reducible rfl)
      try simp only [Act.put, List.setIfInBounds_toArray, List.set_cons_zero, List.set_cons_succ]
      refine take_val (v := ?_) 4 (some 15) rfl (by kernel_rfl) (by kernel_rfl) (by kernel_rfl) (fun _ _ _ h => h) rfl rfl (fun w hSw => ?_) hHeld ?_
      rotate_left
      · (go_simp; try with_reducible rfl)
      try simp only [Act.put, List.setIfInBounds_toArray, List.set_cons_zero, List.set_cons_succ]
      refine take_val (v := (.slice (some ⟨g, o + q, none⟩) 128 (cp - q))) 5 (some 16) rfl (by kernel_rfl) (by kernel_rfl) (by kernel_rfl) (fun _ _ _ h => h) rfl rfl (fun w hSw => ?_) hHeld ?_
      · (go_simp; try omega)
      try simp only [Act.put, List.setIfInBounds_toArray, List.set_cons_zero, List.set_cons_succ]
      refine wpAnyH_ready (rs := [0]) (by kernel_rfl) (by simp) ?_
      refine AllReadyH.cons (o := _) rfl (fun K hK => ?_) ?_
      ·
        rw [if_pos (by rfl)]
        refine wp_load_row 155 (.tmp 3) rfl sb rfl 155 cs (0, 0) _ b0.drew Tryd.underlying155 rfl (by rw [HSZ.out]; exact S8Info) ?_
        refine hK.out _ _ hHeld (fun hHeld => ?_)
        clear hK K
        try simp only [Act.put, List.setIfInBounds_toArray, List.set_cons_zero, List.set_cons_succ]
        refine wpAnyH_ready (rs := [6]) (by kernel_rfl) (by simp) ?_
        refine AllReadyH.cons (o := _) rfl (fun K hK => ?_) ?_
        ·
          go_simp
          refine (HBLK.out _ (BK.out.chg (Chg.refl wr []).drew (by simp))).mono ?_
          rintro e x1 ⟨rfl, k1⟩
          go_wp2_with fail
          have b1 := b0.drew.chg k1 (by simp)
          refine hK.out _ _ (hHeld.trans1 k1.wide) (fun hHeld => ?_)
          clear hK K k1
          try simp only [Act.put, List.setIfInBounds_toArray, List.set_cons_zero, List.set_cons_succ]
          refine wpAnyH_ready (rs := [7]) (by kernel_rfl) (by simp) ?_
          refine AllReadyH.cons (o := _) rfl (fun K hK => ?_) ?_
          ·
            rw [if_pos (by rfl)]
            refine wp_store_row 155 _ _ rfl sb ct rfl rfl 155 _ b1 (by rw [HSZ2.out]; exact S8Info) (by rw [HSZ.out, HSZ2.out]) HON.out ?_
            have hS := hHeld.trans1 (Chg.of (gb_setRow (gb_refl x1 (some sb)) ct))
            refine hK.out _ _ hS (fun hHeld => ?_)
            clear hK K hHeld
            try simp only [Act.put, List.setIfInBounds_toArray, List.set_cons_zero, List.set_cons_succ]
            refine wpAnyH_done (by kernel_rfl) ?_ _
            have b2 := b1.setRow ct
            generalize x1.setRow sb ct = x2 at *
            go_wp2_with fail
            exact ⟨⟨j + 1, q + 128, HJ.out, H9.out, by go_num, b2.to HRN.out.symm, c0.trans1 hS⟩, by have := H9.out; simp [intOf]; omega⟩
          exact AllReadyH.nil
        exact AllReadyH.nil
      exact AllReadyH.nil
    · have hI2 : ¬ (q : Int) + 128 ≤ (M : Int) := by omega
      have e8 : IntKind.i64.wrap ((q : Int) + 128) = (q : Int) + 128 := by have := HML.out; rw [IntKind.wrap_i64]; omega
      have HJQ : Hid (128 * j = q ∧ q ≤ M ∧ M < q + 128) := by show 128 * j = q ∧ q ≤ M ∧ M < q + 128; omega
      clear hjq hqM h9
      obtain ⟨S, hS⟩ : ∃ S, run KK s u j = S := ⟨_, rfl⟩
      have HSE : Hid (run KK s u (M / 128) = S) := by show _ = S; rw [← hS]; congr 1; have := HJQ.out; omega
      have hSU : ∀ i, i < 8 → U (S i) := by rw [← hS]; exact run_lt HUS.out j
      rw [hS] at b0
      clear hS
      have hqM : q ≤ M := HJQ.out.2.1
      obtain ⟨rv, hsl, hrv⟩ := from_sl (HSL.out.chg c0 HSLO.out) hqM
      have HMQ : Hid (M - q = M % 128 ∧ q = 128 * (M / 128)) := by have := HJQ.out; show M - q = M % 128 ∧ q = 128 * (M / 128); omega
      have HRV : Hid (Sl wr rv (M - q) (fun i => u (q + i))) := hrv
      have HFIN : Hid (∀ w, Sl w rv (M - q) (fun i => u (q + i)) → Calls Tryd.prog 100 #[.agg (vC 8 S), rv, .int .u64 (M : Int)] w fun e w' => e = .returned (.agg (yC 64 (sha u M))) ∧ Chg w w' []) := fun w h => by
        have q1 := Finish_r S (fun i => u (q + i)) (M - q) M rv w hSU (by have := HML.out; omega) (by have := HMQ.out; omega) h
        have e1 : run KK S (cat (fun i => u (q + i)) (M - q) (pdf M)) ((M - q + (17 + zr M)) / 128) = run KK IV (cat u M (pdf M)) ((M + (17 + zr M)) / 128) := by
          rw [HMQ.out.1, ← HSE.out, ← HIV.out]
          exact run_cat KK IV u (pdf M) (fun i => u (q + i)) M (17 + zr M) (fun j _ => by rw [HMQ.out.2])
        rw [e1] at q1
        exact q1
      have G4 := G3.chg c0 (by simp; have := HD6.out; omega)
      have C1 := C0.new c0 HBs.out
      obtain ⟨cs, hcs⟩ : ∃ cs, vC 8 S = cs := ⟨_, rfl⟩
      have HSz : Hid (cs.size = 8) := by show cs.size = 8; rw [← hcs]; exact vC_size _ _
      obtain ⟨cd, hcd⟩ : ∃ cd, yC 64 (sha u M) = cd := ⟨_, rfl⟩
      have HCD : Hid (cd = yC 64 (sha u M)) := hcd.symm
      have HZ4 : Hid (cd.size = 64) := by show cd.size = 64; rw [← hcd, yC_size]
      have HON : Hid (cd.all (·.oneCell') = true) := by show cd.all (·.oneCell') = true; rw [← hcd]; exact yC_one _ _
      have eM : IntKind.u64.wrap (M : Int) = (M : Int) := by have := HML.out; rw [IntKind.wrap_u64]; omega
      rw [hcs, hcd] at HFIN
      rw [hcs] at b0
      clear hqM hrv c0 hSU hcs hcd HPF
      go_wp2_with fail
      refine wp_region_held_drew (S := fun w' => Chg wr w' [gd]) (by kernel_rfl) ((Chg.refl wr _).drew) (fun hHeld => ?_)
      refine take_load 0 (some 20) cs rfl (by kernel_rfl) (by kernel_rfl) (by kernel_rfl) (fun _ _ _ h => h) rfl rfl 155 _ rfl sb rfl 155 _ (fun w hSw => b0.chg hSw (by simp; have := HD6.out; omega)) Tryd.underlying155 rfl (by rw [HSz.out]; exact S8Info) hHeld ?_
      try simp only [Act.put, List.setIfInBounds_toArray, List.set_cons_zero, List.set_cons_succ]
      refine take_val (v := ?_) 1 (some 21) rfl (by kernel_rfl) (by kernel_rfl) (by kernel_rfl) (fun _ _ _ h => h) rfl rfl (fun w hSw => ?_) hHeld ?_
      rotate_left
      · (go_simp; try with_reducible rfl)
      try simp only [Act.put, List.setIfInBounds_toArray, List.set_cons_zero, List.set_cons_succ]
      refine take_val (v := ?_) 2 (some 22) rfl (by kernel_rfl) (by kernel_rfl) (by kernel_rfl) (fun _ _ _ h => h) rfl rfl (fun w hSw => ?_) hHeld ?_
      rotate_left
      · (go_simp; try with_reducible rfl)
      try simp only [Act.put, List.setIfInBounds_toArray, List.set_cons_zero, List.set_cons_succ]
      refine take_val (v := (rv)) 3 (some 23) rfl (by kernel_rfl) (by kernel_rfl) (by kernel_rfl) (fun _ _ _ h => h) rfl rfl (fun w hSw => ?_) hHeld ?_
      · (go_simp; try with_reducible rfl)
      try simp only [Act.put, List.setIfInBounds_toArray, List.set_cons_zero, List.set_cons_succ]
      refine take_val (v := ?_) 4 (some 24) rfl (by kernel_rfl) (by kernel_rfl) (by kernel_rfl) (fun _ _ _ h => h) rfl rfl (fun w hSw => ?_) hHeld ?_
      rotate_left
      · (go_simp; try with_reducible rfl)
      try simp only [Act.put, List.setIfInBounds_toArray, List.set_cons_zero, List.set_cons_succ]
      refine take_val (v := ?_) 5 (some 25) rfl (by kernel_rfl) (by kernel_rfl) (by kernel_rfl) (fun _ _ _ h => h) rfl rfl (fun w hSw => ?_) hHeld ?_
      rotate_left
      · (go_simp; try with_reducible rfl)
      try simp only [Act.put, List.setIfInBounds_toArray, List.set_cons_zero, List.set_cons_succ]
      refine take_val (v := ?_) 6 (some 26) rfl (by kernel_rfl) (by kernel_rfl) (by kernel_rfl) (fun _ _ _ h => h) rfl rfl (fun w hSw => ?_) hHeld ?_
      rotate_left
      · (go_simp; try with_reducible rfl)
      try simp only [Act.put, List.setIfInBounds_toArray, List.set_cons_zero, List.set_cons_succ]
      refine wpAnyH_ready (rs := [7]) (by kernel_rfl) (by simp) ?_
      refine AllReadyH.cons (o := _) rfl (fun K hK => ?_) ?_
      ·
        go_simp
        refine (HFIN.out _ (HRV.out.chg (Chg.refl wr []).drew (Off.nil _))).mono ?_
        rintro e x1 ⟨rfl, k1⟩
        go_wp2_with fail
        refine hK.out _ _ (hHeld.trans1 k1.wide) (fun hHeld => ?_)
        clear hK K
        try simp only [Act.put, List.setIfInBounds_toArray, List.set_cons_zero, List.set_cons_succ]
        refine wpAnyH_ready (rs := [8]) (by kernel_rfl) (by simp) ?_
        refine AllReadyH.cons (o := _) rfl (fun K hK => ?_) ?_
        ·
          rw [if_pos (by rfl)]
          have G1 := G4.drew.chg k1 (by simp)
          refine wp_store_row 47 _ _ rfl gd cd rfl rfl 47 _ G1 (by rw [HZ4.out]; exact DInfo) (by rw [HZ4.out]; rfl) HON.out ?_
          have KSR : Chg x1 (x1.setRow gd cd) [gd] := Chg.of (gb_setRow (gb_refl x1 (some gd)) cd)
          refine hK.out _ _ (hHeld.trans1 KSR) (fun hHeld => ?_)
          clear hK K
          try simp only [Act.put, List.setIfInBounds_toArray, List.set_cons_zero, List.set_cons_succ]
          refine wpAnyH_done (by kernel_rfl) ?_ _
          have k0 : Chg wr x1 [] := (Chg.refl wr []).drew.trans1 k1
          go_wp2_with fail
          exact bodyPost_ret (results_cell_row Tryd.results47 _ _ gd 47 cd (0, 0) _ rfl (G1.setRow cd) Tryd.underlying47 rfl (by rw [HZ4.out]; exact DInfo)) rfl ⟨by rw [HCD.out], (C1.trans1 k0).setRowNew HBd.out _⟩
        exact AllReadyH.nil
      exact AllReadyH.nil
end Go.Proofs.YthpfdnkcepfbaaaDoor

/- rimeref03.Join and Short, sha512.Short; == on hashes. -/
namespace Go.Proofs.YthpfdnkcepfbaaaDoor
open Go.RowKit

theorem HHInfo : (Tryd.prog.info? 171).map (·.size) = some 32 := by kernel_rfl
/-- A hash of zeros. -/
def zh : Array Value := #[.int .u8 0, .int .u8 0, .int .u8 0, .int .u8 0, .int .u8 0, .int .u8 0, .int .u8 0, .int .u8 0, .int .u8 0, .int .u8 0, .int .u8 0, .int .u8 0, .int .u8 0, .int .u8 0, .int .u8 0, .int .u8 0, .int .u8 0, .int .u8 0, .int .u8 0, .int .u8 0, .int .u8 0, .int .u8 0, .int .u8 0, .int .u8 0, .int .u8 0, .int .u8 0, .int .u8 0, .int .u8 0, .int .u8 0, .int .u8 0, .int .u8 0, .int .u8 0]
theorem zHh : zh = yC 32 (fun _ => 0) := by kernel_rfl
def eqh (f g : Nat → Nat) : Bool := (List.range 32).all fun i => ((f i : Nat) : Int) == ((g i : Nat) : Int)
theorem eqh_self (f : Nat → Nat) : eqh f f = true := by simp [eqh]
theorem eq_hash (f g : Nat → Nat) (w : World) : (Op.equalIn 10000 171 (.agg (yC 32 f)) (.agg (yC 32 g))).run Tryd.prog w = .ok (eqh f g) w := by
  obtain ⟨i, hi⟩ := u8InfoE
  rw [show (10000 : Nat) = 9998 + 1 + 1 from rfl, run_equalIn_array w 9999 _ _ Tryd.underlying171 hi, u8CellsE]
  exact eqItems_ints w 9998 Tryd.underlying5 _ _ (fun i => ((f i : Nat) : Int)) (fun i => ((g i : Nat) : Int)) (List.range 32) (fun j hj => ⟨yC_get 32 f j (by simpa using hj), yC_get 32 g j (by simpa using hj)⟩)
theorem mJ (K i : Nat) (h : i < K) : (K - intOf (.int .i64 ((i : Int) + 1))).toNat < (K - intOf (.int .i64 (i : Int))).toNat := by simp [intOf]; omega
theorem Ps.frm {w : World} {v : Value} {k : Nat} {pv : Nat → Value} {pn : Nat → Nat} {pf : Nat → Nat → Nat} (h : Ps w v k pv pn pf) : k ≤ 9223372036854775807 ∧ ∃ p c, v = .slice p k c ∧ ∀ i, i < k → ∃ g o, p = some ⟨g, o, none⟩ ∧ g < w.heap.size ∧ w.cell? ⟨g, o + i, none⟩ = some (pv i) := by
  rcases h.2 with ⟨rfl, rfl⟩ | ⟨g, o, cap, rfl, h1, h2, h3, h4⟩
  · exact ⟨by omega, none, 0, rfl, fun i hi => by omega⟩
  · exact ⟨by omega, _, _, rfl, fun i hi => ⟨g, o, rfl, h3, h4 i hi⟩⟩
theorem cell_chg1 {w w' : World} {g k : Nat} {v : Value} (h : w.cell? ⟨g, k, none⟩ = some v) (hg : g < w.heap.size) (hc : Chg w w' []) : w'.cell? ⟨g, k, none⟩ = some v := by
  rw [← h]
  simp only [World.cell?, hc.block g hg (by simp)]
end Go.Proofs.YthpfdnkcepfbaaaDoor
