/- rimeref12.Stream. -/
import Derived.Test.YtachilkhbfpahaaSrBl
import Derived.Test.YtachilkhbfpahaaSrMc
import Derived.Deep.DeepCutAuto
set_option linter.unusedVariables false
set_option linter.unusedSimpArgs false
set_option linter.unnecessarySimpa false
namespace Go.Proofs.Ytachilkhbfpahaa
open Go.RowKit

theorem ks_at (k nn : Nat → Nat) (ct q j : Nat) (hj : j < 64) (hc : ct + q < 4294967296) : ks k ct nn (64 * q + j) = bkB (st0 k (ct + q) nn) j := by
  unfold ks
  rw [ksS_at _ q j hj, show st0 k ct nn 12 = ct by unfold st0; rw [if_neg (by omega), if_neg (by omega), if_pos rfl], Nat.mod_eq_of_lt hc, st0_up]
/-- Bytes of the call's own, and no error. -/
def AnsO (w : World) (base N : Nat) (F : Nat → Nat) (e : Ending) (w' : World) : Prop := ∃ v', e = .returned (.tuple #[v', .int .i64 0]) ∧ Own w' base v' N F ∧ Chg w w' []
theorem Own.cat1 {w : World} {base : Nat} {v : Value} {n x : Nat} {f : Nat → Nat} (h : Own w base v (n + 1) (cat f n fun _ => x)) (e : f n = x) : Own w base v (n + 1) f := h.cong fun i hi => by
  unfold cat
  by_cases hi2 : i < n
  · rw [if_pos hi2]
  · rw [if_neg hi2, ← e, show i = n by omega]
set_option maxHeartbeats 16000000 in
set_option maxRecDepth 100000 in
theorem Stream_r (k nn : Nat → Nat) (ct : Nat) (hk : ∀ i, i < 32 → k i < 256) (hn : ∀ i, i < 12 → nn i < 256) (hct : V ct) (v : Value) (n : Nat) (f : Nat → Nat) (w : World) (hv : Sz w v n f) (hq : ct + (n + 63) / 64 ≤ 4294967296) (b0 : Nat) (hb0 : w.heap.size = b0) :
    Calls Try.prog 11 #[.agg (yC 32 k), .int .u32 (ct : Nat), .agg (yC 12 nn), v] w fun e w' => AnsO w b0 n (xo f (ks k ct nn)) e w' := by
  have HKN : Hid ((∀ i, i < 32 → k i < 256) ∧ (∀ i, i < 12 → nn i < 256) ∧ V ct) := ⟨hk, hn, hct⟩
  have HB0 : Hid (w.heap.size = b0) := hb0
  have HQ : Hid (ct + (n + 63) / 64 ≤ 4294967296) := hq
  have HBL : Hid (∀ q w', ct + q < 4294967296 → Calls Try.prog 13 #[.agg (yC 32 k), .int .u32 ((ct + q : Nat) : Int), .agg (yC 12 nn)] w' fun e w'' => e = .returned (.agg (yC 64 (bkB (st0 k (ct + q) nn)))) ∧ Chg w' w'' []) := fun q w' h => Block_r k (ct + q) nn hk hn h w'
  have HKS : Hid (∀ q j, j < 64 → ct + q < 4294967296 → xo f (ks k ct nn) (64 * q + j) = f (64 * q + j) ^^^ bkB (st0 k (ct + q) nn) j) := fun q j hj hc => by unfold xo; rw [ks_at k nn ct q j hj hc]
  have HXL : Hid (∀ i, i < n → xo f (ks k ct nn) i < 256) := xo_lt hv.bd (ks_lt k ct nn)
  obtain ⟨p, c, rfl, h1, h2, h3⟩ := hv
  have HV : Hid ((n ≤ c ∧ c ≤ 9223372036854775807) ∧ (0 < n → ∃ g o, p = some ⟨g, o, none⟩ ∧ Bs w g o n f)) := ⟨⟨h1, h2⟩, h3⟩
  have HN : Hid (n ≤ 274877906944 ∧ V ct) := ⟨by unfold V at hct; omega, hct⟩
  obtain ⟨X, hX⟩ : ∃ X, xo f (ks k ct nn) = X := ⟨_, rfl⟩
  rw [hX] at HKS HXL ⊢
  obtain ⟨q0, hq1⟩ : ∃ q, (n + 63) / 64 = q := ⟨_, rfl⟩
  obtain ⟨b, hb⟩ : ∃ b, n + 63 = b := ⟨_, rfl⟩
  obtain ⟨s, hs⟩ : ∃ s, ct + q0 = s := ⟨_, rfl⟩
  have HQ0 : Hid ((n + 63) / 64 = q0 ∧ s ≤ 4294967296 ∧ ct + q0 = s) := ⟨hq1, by omega, hs⟩
  have hctV : ct < 4294967296 := hct
  have HN2 : n ≤ 274877906944 := HN.out.1
  have w2 : IntKind.i64.wrap ((n : Int) + 63) = (b : Int) := by rw [IntKind.wrap_i64]; omega
  have w2b : IntKind.u64.wrap (b : Int) = (b : Int) := by rw [IntKind.wrap_u64]; omega
  have d1 : Int.tdiv (b : Int) 64 = (q0 : Int) := by rw [Int.tdiv_eq_ediv_of_nonneg (by omega)]; omega
  have w4 : IntKind.u64.wrap (q0 : Int) = (q0 : Int) := by rw [IntKind.wrap_u64]; omega
  have w5 : IntKind.u64.wrap (ct : Int) = (ct : Int) := by rw [IntKind.wrap_u64]; omega
  have w6 : IntKind.u64.wrap ((ct : Int) + (q0 : Int)) = (s : Int) := by rw [IntKind.wrap_u64]; omega
  have w6b : IntKind.u64.wrap (s : Int) = (s : Int) := by rw [IntKind.wrap_u64]; omega
  have HS1 : Hid (0 < q0 → IntKind.u64.wrap ((s : Int) - 1) = (s : Int) - 1) := fun h => by rw [IntKind.wrap_u64]; omega
  clear hk hn hct hq h1 h2 h3 hX hq1 hb hs hb0
  go_enter Try.func11, Try.ntmps11
  go_upto_region 2 with (first
    | (refine box_w rfl 26 _ rfl (yC 12 nn) rfl ?_; intro nb w2 hnb BN k2)
    | (refine box_w rfl 23 _ rfl (yC 32 k) rfl ?_; intro kb w1 hkb BK k1))
  go_cut [29] (fun t29 wc => t29 = .bool false ∧ Chg w2 wc [])
  case first =>
    have hQ0 := HQ0.out
    by_cases h0 : 0 < q0
    · have i1 : (0 : Int) < (q0 : Int) := by omega
      have w7 := HS1.out h0
      have i2 : ¬ (4294967295 : Int) < (s : Int) - 1 := by omega
      go_wp2_with fail
      go_meet
      case rel => exact ⟨rfl, Chg.refl _ _⟩
    · have i1 : ¬ (0 : Int) < (q0 : Int) := by omega
      go_wp2_with fail
      go_meet
      case rel => exact ⟨rfl, Chg.refl _ _⟩
  case rest =>
    obtain ⟨rfl, k3⟩ := hcut
    obtain ⟨w3, rfl⟩ : ∃ z, z = wc := ⟨wc, rfl⟩
    have BK3 := (BK.chg k2 (by simp)).chg k3 (by simp)
    have BN3 := BN.chg k3 (by simp)
    have K3 : Chg w w3 [] := (k1.trans1 k2).trans1 k3
    clear BK BN k1 k2 k3 hkb hnb w2 w2b d1 w4 w5 w6 w6b HS1
    go_wp2_with fail
    go_loopw [12, 11] (fun t12 t11 wr => ∃ q : Nat, q ≤ q0 ∧ t12 = .int .i64 ((64 * q : Nat) : Int) ∧ Own wr b0 t11 (Nat.min (64 * q) n) X ∧ (Blk wr kb (yC 32 k) 23 ∧ Blk wr nb (yC 12 nn) 26 ∧ Chg w wr [])) (fun t12 _ _ => ((n : Int) + 64 - intOf t12).toNat)
    case atStart => exact ⟨0, by omega, rfl, by show Own w3 b0 _ (min (64 * 0) n) X; rw [show min (64 * 0) n = 0 by omega]; exact Own.nil _ _ _, BK3, BN3, K3⟩
    case round =>
      clear BK3 BN3 K3
      obtain ⟨q, hq, rfl, o0, bk, bn, c0⟩ := hrel
      by_cases h0 : 64 * q < n
      · obtain ⟨⟨h1, h2⟩, h3⟩ := HV.out
        obtain ⟨g, o, rfl, hb⟩ := h3 (by omega)
        have HBF : Hid (Bs w g o n f) := hb
        have hQ0 := HQ0.out
        have hcq : ct + q < 4294967296 := by omega
        have HCQ : Hid (ct + q < 4294967296) := hcq
        have HBQ : Hid (∀ w', Calls Try.prog 13 #[.agg (yC 32 k), .int .u32 ((ct + q : Nat) : Int), .agg (yC 12 nn)] w' fun e w'' => e = .returned (.agg (yC 64 (bkB (st0 k (ct + q) nn)))) ∧ Chg w' w'' []) := fun w' => HBL.out q w' hcq
        have HXQ : Hid (∀ j, j < 64 → X (64 * q + j) = f (64 * q + j) ^^^ bkB (st0 k (ct + q) nn) j) := fun j hj => HKS.out q j hj hcq
        have HBB : Hid (∀ j, bkB (st0 k (ct + q) nn) j < 256) := fun j => bkB_lt _ j
        obtain ⟨D, hD⟩ : ∃ D, bkB (st0 k (ct + q) nn) = D := ⟨_, rfl⟩
        rw [hD] at HBQ HXQ HBB
        obtain ⟨cq, hcq2⟩ : ∃ x, ct + q = x := ⟨_, rfl⟩
        rw [hcq2] at HBQ hcq
        obtain ⟨u, hu⟩ : ∃ u, 64 * q = u := ⟨_, rfl⟩
        rw [hu] at HXQ h0 o0 ⊢
        have e0 : Nat.min u n = u := by show min u n = u; omega
        rw [e0] at o0
        obtain ⟨U, hU⟩ : ∃ U, u + 64 = U := ⟨_, rfl⟩
        have HU : Hid ((64 * q = u ∧ u < n ∧ u + 64 = U ∧ q < q0) ∧ n ≤ 274877906944 ∧ n ≤ c ∧ c ≤ 9223372036854775807) := ⟨⟨hu, h0, hU, by omega⟩, HN.out.1, h1, h2⟩
        have i0 : (u : Int) < (n : Int) := by omega
        have d2 : Int.tdiv (u : Int) 64 = (q : Int) := by rw [Int.tdiv_eq_ediv_of_nonneg (by omega)]; omega
        have d2b : (u : Int) / 64 = (q : Int) := by omega
        have hN1 := HN.out.1
        have x1 : IntKind.u32.wrap (q : Int) = (q : Int) := by rw [IntKind.wrap_u32]; omega
        have x2 : IntKind.u32.wrap ((ct : Int) + (q : Int)) = (cq : Int) := by rw [IntKind.wrap_u32]; omega
        have x3 : IntKind.i64.wrap ((u : Int) + 64) = (U : Int) := by rw [IntKind.wrap_i64]; omega
        have HX3 : Hid (IntKind.i64.wrap ((u : Int) + 64) = (U : Int)) := x3
        have x4 : IntKind.i64.wrap (q : Int) = (q : Int) := by rw [IntKind.wrap_i64]; omega
        clear hD hcq hcq2 hu h0 hq hU h1 h2 h3 hb e0 hN1 hQ0 HBL HKS
        go_wp2_with (first
          | (with_reducible refine load_b bk 23 (.tmp 4) Try.underlying23 ?_ ?_ ?_ ?_ ?_ ?_
             · rfl
             · rfl
             · rfl
             · rfl
             · (rw [yC_size]; exact keyInfo))
          | (with_reducible refine load_b bn 26 (.tmp 6) Try.underlying26 ?_ ?_ ?_ ?_ ?_ ?_
             · rfl
             · rfl
             · rfl
             · rfl
             · (rw [yC_size]; exact nonInfo)))
        refine (HBQ.out wr).mono ?_
        rintro e w5 ⟨rfl, k5⟩
        go_wp2_with (first
          | (refine store_w BT rfl 51 _ _ (yC 64 D) rfl rfl rfl (by rw [yC_size]; exact b64Info) (by rw [yC_size, yC_size]) (yC_one 64 _) ?_; intro w7 BT7 k7)
          | (with_reducible refine alloc_w rfl 51 rfl (.agg (yC 64 (fun _ => 0))) zeroB64 (yC 64 (fun _ => 0)) rfl ?_; intro tb w6 htb BT k6))
        have K56 := k5.trans1 k6
        have HTB : Hid ((¬ tb = kb ∧ ¬ tb = nb) ∧ w.heap.size ≤ tb ∧ wr.heap.size ≤ tb) := by
          have a1 := bk.lt
          have a2 := bn.lt
          have a3 := k5.size
          have a4 := c0.size
          exact ⟨⟨by omega, by omega⟩, by omega, by omega⟩
        have bk7 := (bk.chg K56 (by simp)).chg k7 (by have := HTB.out; simp; omega)
        have bn7 := (bn.chg K56 (by simp)).chg k7 (by have := HTB.out; simp; omega)
        have c07 : Chg w w7 [] := (c0.trans1 K56).new k7 HTB.out.2.1
        have o7 := (o0.chg K56 (by simp)).chg k7 (fun x hx => by have := (o0.ob_ge x hx).2; have := HTB.out; simp; omega)
        clear o0 bk bn c0 k5 k6 k7 K56 BT htb
        go_loopw [14, 11] (fun t14 t11 wr => ∃ j : Nat, j ≤ 64 ∧ u + j ≤ n ∧ t14 = .int .i64 ((u + j : Nat) : Int) ∧ Own wr b0 t11 (u + j) X ∧ (Blk wr kb (yC 32 k) 23 ∧ Blk wr nb (yC 12 nn) 26 ∧ Blk wr tb (yC 64 D) 51 ∧ Chg w wr [])) (fun t14 _ _ => ((n : Int) - intOf t14).toNat)
        case atStart => exact ⟨0, by omega, by have := HU.out; omega, rfl, o7, bk7, bn7, BT7, c07⟩
        case round =>
          clear o7 bk7 bn7 BT7 c07
          obtain ⟨j, hj, hjn, rfl, o0, bk, bn, bt, c0⟩ := hrel
          obtain ⟨m, hm⟩ : ∃ m, u + j = m := ⟨_, rfl⟩
          rw [hm] at hjn o0 ⊢
          have hUo := HU.out
          by_cases hl : j < 64 ∧ m < n
          · have y1 : (m : Int) < (U : Int) := by omega
            have y2 : (m : Int) < (n : Int) := by omega
            have y3 : IntKind.i64.wrap ((m : Int) - (u : Int)) = (j : Int) := by rw [IntKind.wrap_i64]; omega
            have y4 : (m : Int) - (u : Int) = (j : Int) := by omega
            have y5 : (j : Int) < 64 := by omega
            have y7 : IntKind.i64.wrap (j : Int) = (j : Int) := by rw [IntKind.wrap_i64]; omega
            have y6 : IntKind.i64.wrap ((m : Int) + 1) = (m : Int) + 1 := by rw [IntKind.wrap_i64]; omega
            have hX := HXQ.out j hl.1
            rw [hm] at hX
            have hxo : Hid (bits .xor .u8 ((f m : Nat) : Int) ((D j : Nat) : Int) = ((X m : Nat) : Int)) := by
              show bits .xor .u8 ((f m : Nat) : Int) ((D j : Nat) : Int) = ((X m : Nat) : Int)
              rw [u8_xor_nat _ _ (HBF.out.bd m (by omega)) (HBB.out j), hX]
            have HXM : Hid (X m < 256) := HXL.out m hl.2
            have cS := (HBF.out.chg c0 (by simp)).cell m hl.2
            have HG : Hid (g < w.heap.size) := HBF.out.lt
            have HJ : Hid ((u + j = m ∧ j < 64 ∧ m < n) ∧ n ≤ 274877906944) := ⟨⟨hm, hl.1, hl.2⟩, hUo.2.1⟩
            obtain ⟨A, hA⟩ : ∃ A, f m = A := ⟨_, rfl⟩
            obtain ⟨E, hE⟩ : ∃ E, X m = E := ⟨_, rfl⟩
            have HE : Hid (X m = E) := hE
            rw [hA, hE] at hxo
            rw [hA] at cS
            rw [hE] at HXM
            have x3 := HX3.out
            have hw0 : Hid (w.heap.size ≤ wr.heap.size) := c0.size
            clear hA hE hX hl hm hj hjn hUo
            go_wp2_with fail
            refine lt_begin (fun w' => w'.cell? ⟨g, o + m, none⟩ = some (.int .u8 (A : Int)) ∧ Blk w' tb (yC 64 D) 51) (fun _ => false) (by kernel_rfl) ?_
            have hHeld : wr.drew.cell? ⟨g, o + m, none⟩ = some (.int .u8 (A : Int)) ∧ Blk wr.drew tb (yC 64 D) 51 := ⟨cS, bt.drew⟩
            replace bk := bk.drew
            replace bn := bn.drew
            have oz : Own wr.drew b0 _ m X := o0.chg ((Chg.refl wr []).drew) (by simp)
            replace c0 := c0.drew
            obtain ⟨z, hz⟩ : ∃ z, z = wr.drew := ⟨_, rfl⟩
            rw [← hz] at hHeld bk bn oz c0 ⊢
            clear hz o0 bt cS
            refine lt_val (v := ?_) 0 (some 57) rfl (by kernel_rfl) (by kernel_rfl) (by kernel_rfl) (fun _ _ _ h => h) rfl rfl (fun w => ?_) ?_
            rotate_left
            · (go_simp; try with_reducible rfl)
            try simp only [Act.put, List.setIfInBounds_toArray, List.set_cons_zero, List.set_cons_succ]
            refine lt_val (v := ?_) 1 (some 58) rfl (by kernel_rfl) (by kernel_rfl) (by kernel_rfl) (fun _ _ _ h => h) rfl rfl (fun w => ?_) ?_
            rotate_left
            · (go_simp; try with_reducible rfl)
            try simp only [Act.put, List.setIfInBounds_toArray, List.set_cons_zero, List.set_cons_succ]
            refine lt_val (v := ?_) 2 (some 59) rfl (by kernel_rfl) (by kernel_rfl) (by kernel_rfl) (fun _ _ _ h => h) rfl rfl (fun w => ?_) ?_
            rotate_left
            · (go_simp; try with_reducible rfl)
            try simp only [Act.put, List.setIfInBounds_toArray, List.set_cons_zero, List.set_cons_succ]
            refine lt_val (v := ?_) 3 (some 60) rfl (by kernel_rfl) (by kernel_rfl) (by kernel_rfl) (fun _ _ _ h => h) rfl rfl (fun w => ?_) ?_
            rotate_left
            · (go_simp; try with_reducible rfl)
            try simp only [Act.put, List.setIfInBounds_toArray, List.set_cons_zero, List.set_cons_succ]
            refine lt_read (v := (.int .u8 (A : Int))) 4 (some 61) rfl (by kernel_rfl) (by kernel_rfl) (by kernel_rfl) (by kernel_rfl) (fun _ _ _ h => h) rfl rfl (fun w hSw => ?_) hHeld ?_
            · have qa := hSw.1; (go_simp; try with_reducible rfl)
            try simp only [Act.put, List.setIfInBounds_toArray, List.set_cons_zero, List.set_cons_succ]
            refine lt_val (v := ?_) 5 (some 62) rfl (by kernel_rfl) (by kernel_rfl) (by kernel_rfl) (fun _ _ _ h => h) rfl rfl (fun w => ?_) ?_
            rotate_left
            · (go_simp; try with_reducible rfl)
            try simp only [Act.put, List.setIfInBounds_toArray, List.set_cons_zero, List.set_cons_succ]
            refine lt_val (v := ?_) 6 (some 63) rfl (by kernel_rfl) (by kernel_rfl) (by kernel_rfl) (fun _ _ _ h => h) rfl rfl (fun w => ?_) ?_
            rotate_left
            · (go_simp; try with_reducible rfl)
            try simp only [Act.put, List.setIfInBounds_toArray, List.set_cons_zero, List.set_cons_succ]
            refine lt_val (v := ?_) 7 (some 64) rfl (by kernel_rfl) (by kernel_rfl) (by kernel_rfl) (fun _ _ _ h => h) rfl rfl (fun w => ?_) ?_
            rotate_left
            · (go_simp; try with_reducible rfl)
            try simp only [Act.put, List.setIfInBounds_toArray, List.set_cons_zero, List.set_cons_succ]
            refine lt_val (v := ?_) 8 (some 65) rfl (by kernel_rfl) (by kernel_rfl) (by kernel_rfl) (fun _ _ _ h => h) rfl rfl (fun w => ?_) ?_
            rotate_left
            · (go_simp; try with_reducible rfl)
            try simp only [Act.put, List.setIfInBounds_toArray, List.set_cons_zero, List.set_cons_succ]
            refine lt_read (v := (.int .u8 (D j : Nat))) 9 (some 66) rfl (by kernel_rfl) (by kernel_rfl) (by kernel_rfl) (by kernel_rfl) (fun _ _ _ h => h) rfl rfl (fun w hSw => ?_) hHeld ?_
            · have qb := (hSw.2.cell j).trans (yC_get 64 _ j HJ.out.1.2.1); (go_simp; try with_reducible rfl)
            try simp only [Act.put, List.setIfInBounds_toArray, List.set_cons_zero, List.set_cons_succ]
            refine lt_val (v := (.int .u8 (E : Nat))) 10 (some 67) rfl (by kernel_rfl) (by kernel_rfl) (by kernel_rfl) (fun _ _ _ h => h) rfl rfl (fun w => ?_) ?_
            · have := hxo.out; (go_simp; try with_reducible rfl)
            try simp only [Act.put, List.setIfInBounds_toArray, List.set_cons_zero, List.set_cons_succ]
            refine lt_one 11 rfl (by kernel_rfl) rfl (fun K hK => ?_)
            refine bsl_o (.tmp 67) rfl E rfl ?_
            intro gx wA hgx BX kA
            change K (Act.put _ (some 68) _) _
            refine hK.out _ _ (fun _ h => ⟨(kA.cell g (o + m) (by have := HG.out; have := c0.size; omega) (by simp)).trans h.1, h.2.chg kA (by simp)⟩) ?_
            replace hHeld := And.intro ((kA.cell g (o + m) (by have := HG.out; have := c0.size; omega) (by simp)).trans hHeld.1) (hHeld.2.chg kA (by simp))
            replace oz := oz.chg kA (by simp)
            have c0A := c0.trans1 kA
            clear hK K
            try simp only [Act.put, List.setIfInBounds_toArray, List.set_cons_zero, List.set_cons_succ]
            refine lt_one 12 rfl (by kernel_rfl) rfl (fun K hK => ?_)
            refine append_zo (.tmp 57) (.tmp 68) rfl b0 _ (.slice (some ⟨gx, 0, none⟩) 1 1) m 1 X (fun _ => E) rfl rfl oz (BX.szn (fun _ _ => HXM.out) (by decide)) (by have := HJ.out; omega) (by have := HB0.out; have := c0A.size; omega) ?_
            intro v' wB OB kB
            change K (Act.put _ (some 69) _) _
            have hob := oz.ob_ge
            have hgn : ¬ g ∈ ob _ := fun h => by have := (hob g h).1; have := HG.out; have := HB0.out; omega
            have hTn := oz.nt hHeld.2 (by decide)
            refine hK.out _ _ (fun _ h => ⟨(kB.cell g (o + m) (by have := HG.out; have := c0A.size; omega) hgn).trans h.1, h.2.chg kB hTn⟩) ?_
            have bkB' := (bk.chg kA (by simp)).chg kB (oz.nt (bk.chg kA (by simp)) (by decide))
            have bnB' := (bn.chg kA (by simp)).chg kB (oz.nt (bn.chg kA (by simp)) (by decide))
            have btB' := hHeld.2.chg kB hTn
            have c0B : Chg w wB [] := c0A.trans kB (fun i hi => Or.inr (by have := (hob i hi).1; have := HB0.out; omega))
            have OB' := OB.cat1 HE.out
            clear hHeld oz c0 c0A kA kB bk bn OB BX hgx hob hTn hgn
            clear hK K
            try simp only [Act.put, List.setIfInBounds_toArray, List.set_cons_zero, List.set_cons_succ]
            refine lt_val (v := ?_) 13 (some 11) rfl (by kernel_rfl) (by kernel_rfl) (by kernel_rfl) (fun _ _ _ h => h) rfl rfl (fun w => ?_) ?_
            rotate_left
            · (go_simp; try with_reducible rfl)
            try simp only [Act.put, List.setIfInBounds_toArray, List.set_cons_zero, List.set_cons_succ]
            refine lt_done (by kernel_rfl) ?_ _
            go_wp2_with fail
            exact ⟨⟨j + 1, by have := HJ.out; omega, by have := HJ.out; omega, congrArg (Value.int .i64) (by have := HJ.out; omega), by rw [show u + (j + 1) = m + 1 by have := HJ.out; omega]; exact OB', bkB', bnB', btB', c0B⟩, by simp [intOf]; have := HJ.out; omega⟩
          · have x3 := HX3.out
            have hmU : Nat.min U n = m := by show min U n = m; omega
            have HM : Hid ((Nat.min U n = m ∧ u + 64 = U ∧ 64 * q = u ∧ q < q0) ∧ u + j = m ∧ u < n) := ⟨⟨hmU, by omega, by omega, by omega⟩, hm, by omega⟩
            obtain ⟨w9, rfl⟩ : ∃ z, z = wr := ⟨wr, rfl⟩
            by_cases h6 : j < 64
            · have y1 : (m : Int) < (U : Int) := by omega
              have y2 : ¬ (m : Int) < (n : Int) := by omega
              clear hmU hl hm hj hjn hUo h6
              go_wp2_with fail
              exact ⟨⟨q + 1, by have := HM.out; omega, congrArg (Value.int .i64) (by have := HM.out; omega), by rw [show 64 * (q + 1) = U by have := HM.out; omega, HM.out.1.1]; exact o0, bk, bn, c0⟩, by simp [intOf]; have := HM.out; omega⟩
            · have y1 : ¬ (m : Int) < (U : Int) := by omega
              clear hmU hl hm hj hjn hUo h6
              go_wp2_with fail
              exact ⟨⟨q + 1, by have := HM.out; omega, congrArg (Value.int .i64) (by have := HM.out; omega), by rw [show 64 * (q + 1) = U by have := HM.out; omega, HM.out.1.1]; exact o0, bk, bn, c0⟩, by simp [intOf]; have := HM.out; omega⟩
      · obtain ⟨u, hu⟩ : ∃ u, 64 * q = u := ⟨_, rfl⟩
        rw [hu] at h0 o0 ⊢
        have e0 : Nat.min u n = n := by show min u n = n; omega
        rw [e0] at o0
        have i0 : ¬ (u : Int) < (n : Int) := by omega
        clear hu h0 hq e0 bk bn HBL HKS
        go_wp2_with fail
        go_ret2
        exact ⟨_, rfl, o0, c0⟩
end Go.Proofs.Ytachilkhbfpahaa
