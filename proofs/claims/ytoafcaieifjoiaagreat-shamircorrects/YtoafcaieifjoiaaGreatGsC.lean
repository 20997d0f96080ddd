/- rimeref07.solved. -/
import Derived.Test.YtoafcaieifjoiaaGreatGsX
import Derived.Test.YtoafcaieifjoiaaGreatMgM
import Derived.Test.YtoafcaieifjoiaaGreatMgK
import Derived.Deep.DeepCutAuto
import Derived.Deep.CutBlock
import Derived.WalkMore
set_option linter.unusedVariables false
set_option linter.unusedSimpArgs false
set_option linter.unnecessarySimpa false
namespace Go.Proofs.YtoafcaieifjoiaaGreat
open Go.RowKit N

theorem Invert_q {a : Int} (ra : RL a) (h : eqn (cn a) 0 = false) (w : World) : Calls Tryz.prog 104 #[fe a] w fun e w' => e = .returned (.tuple #[fe (iv a), .int .i64 0]) ∧ Chg w w' [] := by
  have r := r256_rl ra
  obtain ⟨m, rfl⟩ : ∃ m : Nat, a = (m : Int) := ⟨a.toNat, by have := r.1; omega⟩
  exact Invert_rnot m (by have := r.2; omega) h w
def NqP (q : Nat → Nat) (M ab : Nat) : Prop := ∀ i, i < M → ¬ q i = ab
/-- What the search for a row leaves. -/
def FdE (R : Nat → Nat → Int) (c r M : Nat) (v : Value) : Prop := (v = .int .i64 (-1) ∧ ∀ j, r ≤ j → j < M → R j c = 0) ∨ ∃ p : Nat, v = .int .i64 (p : Int) ∧ r ≤ p ∧ p < M ∧ ¬ R p c = 0
theorem eq0_is {x : Int} (h : RL x) : eqn (cn x) 0 = decide (x = 0) := by
  have e2 : cn x = x := mod_id h
  rw [e2, eqn_eq h ⟨by decide, by decide⟩]
set_option maxHeartbeats 64000000 in
set_option maxRecDepth 100000 in
theorem solved_r (rb rc M W : Nat) (hM : M ≤ 255) (hW : W ≤ 1000) (q0 cp0 : Nat → Nat) (R : Nat → Nat → Int) (w0 w : World) (h0 : My w0 w rb M (W + 1) q0 cp0 R) :
    Calls Tryz.prog 121 #[.slice (some ⟨rb, 0, none⟩) M rc, .int .i64 (W : Int)] w fun e w' => ∃ x, e = .returned x ∧ SoP R M W w0.heap.size w' x ∧ Chg w0 w' [] := by
  have HB : Hid (M ≤ 255 ∧ W ≤ 1000) := ⟨hM, hW⟩
  obtain ⟨W1, hW1⟩ : ∃ W1, W + 1 = W1 := ⟨_, rfl⟩
  have HW1 : Hid (W + 1 = W1) := hW1
  have hWW : (W : Int) < (W1 : Int) := by omega
  have hW0 : (0 : Int) ≤ (W : Int) := by omega
  rw [hW1] at h0
  clear hM hW hW1
  go_enter Tryz.func121, Tryz.ntmps121
  go_wp2_with (refine make_ib rfl _ _ rfl W (by have := HB.out; omega) rfl rfl ?_; intro ab w1 hab I0 k0)
  have HAB : Hid (w0.heap.size ≤ ab) := by have := h0.chg.size; show w0.heap.size ≤ ab; omega
  have HRA : Hid (¬ rb = ab) := by have := h0.blk.lt; show ¬ rb = ab; omega
  have HABR : Hid (¬ ab ∈ [rb]) := by have := HRA.out; show ¬ ab ∈ [rb]; simp; omega
  have N0 : NqP q0 M ab := fun i hi => by have := h0.qlt hi; omega
  have M0 := h0.keep k0
  clear k0 hab h0
  --CUT0
  go_loopw [7, 8] (fun t7 t8 wr => ∃ (r c : Nat) (q cp : Nat → Nat) (R1 : Nat → Nat → Int) (A : Nat → Int), c ≤ W ∧ t7 = .int .i64 (r : Int) ∧ t8 = .int .i64 (c : Int) ∧ My w0 wr rb M W1 q cp R1 ∧ Ib wr ab W A ∧ GsQ R R1 M W c r A ∧ NqP q M ab) (fun _ t _ => (W - intOf t).toNat)
  case atStart => exact ⟨0, 0, q0, cp0, R, _, Nat.zero_le _, rfl, rfl, M0, I0, GsQ.zero R M W _, N0⟩
  case round =>
    clear M0 I0 N0
    obtain ⟨r, c, q, cp, R1, A, hc, rfl, rfl, Mr, Ia, HG', HN'⟩ := hrel
    have HG : Hid (GsQ R R1 M W c r A) := HG'
    have HNq : Hid (NqP q M ab) := HN'
    have HrM : Hid (r ≤ M) := by haveI := LN_nz; exact HG'.1.le
    clear HG' HN'
    by_cases h : c < W
    · have hci : (c : Int) < (W : Int) := by omega
      have hc0 : (0 : Int) ≤ (c : Int) := by omega
      have hc1 : (c : Int) < (W1 : Int) := by omega
      have HC : Hid (c < W ∧ c < W1) := by have := HW1.out; show c < W ∧ c < W1; omega
      have HMo : Hid _ := mN W c h
      have ec : IntKind.i64.wrap ((c : Int) + 1) = (c : Int) + 1 := by have := HB.out; rw [IntKind.wrap_i64]; omega
      have HRl : Hid (∀ j, j < M → RL (R1 j c)) := fun j hj => Mr.rl j c hj HC.out.2
      clear h hc
      go_upto_block 2 with (refine store_ib rfl (.tmp 29) (.const (.int .i64 (-1))) rfl ab W c A (-1) rfl rfl Ia HC.out.1 ?_; intro wa Ia1 ka)
      have Mr1 := Mr.off ka HAB.out HRA.out HNq.out
      clear ka Mr Ia
      --CUT1
      go_cut [9] (fun t9 wc => FdE R1 c r M t9 ∧ My w0 wc rb M W1 q cp R1 ∧ Ib wc ab W (upS A c (-1)))
      case first =>
        go_wp2_with fail
        go_loopw [9, 10] (fun t9 t10 wr => ∃ i : Nat, r ≤ i ∧ i ≤ M ∧ t10 = .int .i64 (i : Int) ∧ FdP R1 c r M t9 i ∧ My w0 wr rb M W1 q cp R1 ∧ Ib wr ab W (upS A c (-1))) (fun _ t _ => (M - intOf t).toNat)
        case atStart => exact ⟨r, Nat.le_refl _, HrM.out, rfl, Or.inl ⟨rfl, fun j h1 h2 => by omega⟩, Mr1, Ia1⟩
        case round =>
          clear Mr1 Ia1
          obtain ⟨i, hri, hiM, rfl, hf, Mr, Ia⟩ := hrel
          rcases hf with ⟨rfl, hz⟩ | ⟨p, rfl, hp1, hp2, hp3⟩
          · by_cases h : i < M
            · have hI : (i : Int) < (M : Int) := by omega
              have hI0 : (0 : Int) ≤ (i : Int) := by omega
              have ei : IntKind.i64.wrap ((i : Int) + 1) = (i : Int) + 1 := by have := HB.out; rw [IntKind.wrap_i64]; omega
              have HI : Hid (i < M ∧ r ≤ i) := ⟨h, hri⟩
              have HMs : Hid _ := mN M i h
              have HHz : Hid (∀ j, r ≤ j → j < i → R1 j c = 0) := hz
              have h2 : wr.cell? ⟨rb, i, none⟩ = some (.slice (some ⟨q i, 0, none⟩) W1 (cp i)) := Mr.cell h
              have hrg : wr.rangeAt (q i) (c * 32) (feL (R1 i c)) := Mr.range h HC.out.2 rfl
              clear h hri hiM hz
              go_wp2_with (refine load_sc rfl _ rfl (q i) (c * 32) (R1 i c) rfl hrg ?_)
              by_cases hz0 : R1 i c = 0
              · refine (IsZero_q (R1 i c) (r256_rl (HRl.out i HI.out.1)) true (by rw [eq0_is (HRl.out i HI.out.1)]; exact decide_eq_true hz0) wr).mono ?_
                rintro e w2 ⟨rfl, k⟩
                have HZ : Hid (R1 i c = 0) := hz0
                replace Mr := Mr.keep k
                replace Ia := Ia.chg k (by simp)
                clear k hz0 h2 hrg
                go_wp2_with fail
                go_roundw
                case rel => exact ⟨i + 1, by have := HI.out; omega, HI.out.1, by go_num, Or.inl ⟨rfl, fun j a b => by
                  by_cases e : j = i
                  · rw [e]; exact HZ.out
                  · exact HHz.out j a (by omega)⟩, Mr, Ia⟩
                case measure => exact HMs.out
              · refine (IsZero_q (R1 i c) (r256_rl (HRl.out i HI.out.1)) false (by rw [eq0_is (HRl.out i HI.out.1)]; exact decide_eq_false hz0) wr).mono ?_
                rintro e w2 ⟨rfl, k⟩
                have HZ : Hid (¬ R1 i c = 0) := hz0
                replace Mr := Mr.keep k
                replace Ia := Ia.chg k (by simp)
                clear k hz0 h2 hrg
                go_wp2_with fail
                go_roundw
                case rel => exact ⟨i + 1, by have := HI.out; omega, HI.out.1, by go_num, Or.inr ⟨i, rfl, HI.out.2, HI.out.1, HZ.out⟩, Mr, Ia⟩
                case measure => exact HMs.out
            · obtain rfl : M = i := by omega
              have hI : ¬ (M : Int) < (M : Int) := by omega
              have HHz : Hid (∀ j, r ≤ j → j < M → R1 j c = 0) := hz
              clear hz
              go_wp2_with fail
              go_meet
              case rel => exact ⟨Or.inl ⟨rfl, HHz.out⟩, Mr, Ia⟩
          · have hpn : ¬ (p : Int) < 0 := by omega
            have HP : Hid (r ≤ p ∧ p < M ∧ ¬ R1 p c = 0) := ⟨hp1, hp2, hp3⟩
            by_cases h : i < M
            · have hI : (i : Int) < (M : Int) := by omega
              clear h hp1 hp2 hp3
              go_wp2_with fail
              go_meet
              case rel => exact ⟨Or.inr ⟨p, rfl, HP.out⟩, Mr, Ia⟩
            · have hI : ¬ (i : Int) < (M : Int) := by omega
              clear h hp1 hp2 hp3
              go_wp2_with fail
              go_meet
              case rel => exact ⟨Or.inr ⟨p, rfl, HP.out⟩, Mr, Ia⟩
      case rest =>
        clear Mr1 Ia1
        obtain ⟨hf, Mr, Ia⟩ := hcut
        obtain ⟨w2, rfl⟩ : ∃ z, z = wc := ⟨wc, rfl⟩
        rcases hf with ⟨rfl, hz⟩ | ⟨p, rfl, hp1, hp2, hp3⟩
        · have HG2 : Hid (GsQ R R1 M W (c + 1) r (upS A c (-1))) := HG.out.skip hz
          clear hz HG
          go_wp2_with fail
          go_roundw
          case rel => exact ⟨r, c + 1, q, cp, R1, _, HC.out.1, rfl, by go_num, Mr, Ia, HG2.out, HNq.out⟩
          case measure => exact HMo.out
        · have hpn : ¬ (p : Int) < 0 := by omega
          have hp0 : (0 : Int) ≤ (p : Int) := by omega
          have hpM : (p : Int) < (M : Int) := by omega
          have hr0 : (0 : Int) ≤ (r : Int) := by omega
          have hrM : (r : Int) < (M : Int) := by omega
          have HP : Hid (r ≤ p ∧ p < M ∧ ¬ R1 p c = 0) := ⟨hp1, hp2, hp3⟩
          have HR : Hid (r < M ∧ True) := ⟨by omega, trivial⟩
          have HNZ : Hid (eqn (cn (R1 p c)) 0 = false) := by show eqn (cn (R1 p c)) 0 = false; rw [eq0_is (HRl.out p hp2)]; exact decide_eq_false hp3
          clear hp1 hp2 hp3
          go_upto_region 14 with fail
          --CUT2
          obtain ⟨q2, hq2⟩ : ∃ q2, (fun i => q (Q.swp r p i)) = q2 := ⟨_, rfl⟩
          obtain ⟨cp2, hcp2⟩ : ∃ q2, (fun i => cp (Q.swp r p i)) = q2 := ⟨_, rfl⟩
          obtain ⟨R2, hR2⟩ : ∃ q2, (fun i => R1 (Q.swp r p i)) = q2 := ⟨_, rfl⟩
          go_cut [] (fun wc => My w0 wc rb M W1 q2 cp2 R2 ∧ Ib wc ab W (upS A c (-1)))
          case first =>
            refine wp_region_held_drew (S := fun w' => Chg w2 w' [rb]) (by kernel_rfl) ((Chg.refl w2 _).drew) (fun hHeld => ?_)
            replace Mr := Mr.drew
            refine tv (v := ?_) 0 (some 53) rfl (by kernel_rfl) (fun _ _ _ h => h) rfl rfl (fun w hSw => ?_) hHeld ?_; rotate_left; (· (go_simp; try with_reducible rfl)); try simp only [Act.put, sA1, sA2, sA3]
            refine tv (v := ?_) 1 (some 54) rfl (by kernel_rfl) (fun _ _ _ h => h) rfl rfl (fun w hSw => ?_) hHeld ?_; rotate_left; (· (go_simp; try with_reducible rfl)); try simp only [Act.put, sA1, sA2, sA3]
            refine tv (v := ?_) 2 (some 55) rfl (by kernel_rfl) (fun _ _ _ h => h) rfl rfl (fun w hSw => ?_) hHeld ?_; rotate_left; (· (go_simp; try with_reducible rfl)); try simp only [Act.put, sA1, sA2, sA3]
            refine tv (v := ?_) 3 (some 56) rfl (by kernel_rfl) (fun _ _ _ h => h) rfl rfl (fun w hSw => ?_) hHeld ?_; rotate_left; (· (go_simp; try with_reducible rfl)); try simp only [Act.put, sA1, sA2, sA3]
            refine tv (v := ?_) 4 (some 57) rfl (by kernel_rfl) (fun _ _ _ h => h) rfl rfl (fun w hSw => ?_) hHeld ?_; rotate_left; (· (go_simp; try with_reducible rfl)); try simp only [Act.put, sA1, sA2, sA3]
            refine tv (v := ?_) 5 (some 58) rfl (by kernel_rfl) (fun _ _ _ h => h) rfl rfl (fun w hSw => ?_) hHeld ?_; rotate_left; (· (go_simp; try with_reducible rfl)); try simp only [Act.put, sA1, sA2, sA3]
            refine tv (v := ?_) 6 (some 59) rfl (by kernel_rfl) (fun _ _ _ h => h) rfl rfl (fun w hSw => ?_) hHeld ?_; rotate_left; (· (go_simp; try with_reducible rfl)); try simp only [Act.put, sA1, sA2, sA3]
            refine tv (v := ?_) 8 (some 61) rfl (by kernel_rfl) (fun _ _ _ h => h) rfl rfl (fun w hSw => ?_) hHeld ?_; rotate_left; (· (go_simp; try with_reducible rfl)); try simp only [Act.put, sA1, sA2, sA3]
            refine tv (v := ?_) 9 (some 62) rfl (by kernel_rfl) (fun _ _ _ h => h) rfl rfl (fun w hSw => ?_) hHeld ?_; rotate_left; (· (go_simp; try with_reducible rfl)); try simp only [Act.put, sA1, sA2, sA3]
            refine tv (v := ?_) 10 (some 63) rfl (by kernel_rfl) (fun _ _ _ h => h) rfl rfl (fun w hSw => ?_) hHeld ?_; rotate_left; (· (go_simp; try with_reducible rfl)); try simp only [Act.put, sA1, sA2, sA3]
            refine wpAnyH_ready (rs := [7, 11]) (by kernel_rfl) (by simp) ?_
            refine AllReadyH.cons (o := _) rfl (fun K hK => ?_) ?_
            ·
              rw [if_pos (by rfl)]
              refine wp_load_cell _ rfl rb p _ rfl (Mr.cell HP.out.2.1) ?_
              refine hK.out _ _ (hHeld) (fun hHeld => ?_)
              clear hK K
              try simp only [Act.put, sA1, sA2, sA3]
              refine wpAnyH_ready (rs := [11]) (by kernel_rfl) (by simp) ?_
              refine AllReadyH.cons (o := _) rfl (fun K hK => ?_) ?_
              ·
                rw [if_pos (by rfl)]
                refine wp_load_cell _ rfl rb r _ rfl (Mr.cell HR.out.1) ?_
                refine hK.out _ _ (hHeld) (fun hHeld => ?_)
                clear hK K
                try simp only [Act.put, sA1, sA2, sA3]
                refine tv (v := ?_) 12 (some 65) rfl (by kernel_rfl) (fun _ _ _ h => h) rfl rfl (fun w hSw => ?_) hHeld ?_; rotate_left; (· (go_simp; try with_reducible rfl)); try simp only [Act.put, sA1, sA2, sA3]
                refine wpAnyH_ready (rs := [13]) (by kernel_rfl) (by simp) ?_
                refine AllReadyH.cons (o := _) rfl (fun K hK => ?_) ?_
                ·
                  rw [if_pos (by rfl)]
                  refine wp_store_rwy _ _ rfl rb M W1 r (q p) (cp p) q cp rfl rfl Mr.blk HR.out.1 ?_
                  intro w6 B6 k6
                  refine hK.out _ _ (hHeld.trans1 k6) (fun hHeld => ?_)
                  clear hK K
                  try simp only [Act.put, sA1, sA2, sA3]
                  refine tv (v := ?_) 14 (some 66) rfl (by kernel_rfl) (fun _ _ _ h => h) rfl rfl (fun w hSw => ?_) hHeld ?_; rotate_left; (· (go_simp; try with_reducible rfl)); try simp only [Act.put, sA1, sA2, sA3]
                  refine wpAnyH_ready (rs := [15]) (by kernel_rfl) (by simp) ?_
                  refine AllReadyH.cons (o := _) rfl (fun K hK => ?_) ?_
                  ·
                    rw [if_pos (by rfl)]
                    refine wp_store_rwy _ _ rfl rb M W1 p (q r) (cp r) _ _ rfl rfl B6 HP.out.2.1 ?_
                    intro w7 B7 k7
                    refine hK.out _ _ (hHeld.trans1 k7) (fun hHeld => ?_)
                    clear hK K
                    try simp only [Act.put, sA1, sA2, sA3]
                    refine wpAnyH_done (by kernel_rfl) ?_ _
                    have M3 := Mr.swap HR.out.1 HP.out.2.1 (k6.trans1 k7) B7
                    have I3 := Ia.chg hHeld HABR.out
                    clear Mr B6 B7 k6 k7 hHeld Ia
                    go_wp2_with fail
                    go_meet
                    case rel => exact ⟨by rw [← hq2, ← hcp2, ← hR2]; exact M3, I3⟩
                  exact AllReadyH.nil
                exact AllReadyH.nil
              exact AllReadyH.nil
            refine AllReadyH.cons (o := _) rfl (fun K hK => ?_) ?_
            ·
              rw [if_pos (by rfl)]
              refine wp_load_cell _ rfl rb r _ rfl (Mr.cell HR.out.1) ?_
              refine hK.out _ _ (hHeld) (fun hHeld => ?_)
              clear hK K
              try simp only [Act.put, sA1, sA2, sA3]
              refine wpAnyH_ready (rs := [7]) (by kernel_rfl) (by simp) ?_
              refine AllReadyH.cons (o := _) rfl (fun K hK => ?_) ?_
              ·
                rw [if_pos (by rfl)]
                refine wp_load_cell _ rfl rb p _ rfl (Mr.cell HP.out.2.1) ?_
                refine hK.out _ _ (hHeld) (fun hHeld => ?_)
                clear hK K
                try simp only [Act.put, sA1, sA2, sA3]
                refine tv (v := ?_) 12 (some 65) rfl (by kernel_rfl) (fun _ _ _ h => h) rfl rfl (fun w hSw => ?_) hHeld ?_; rotate_left; (· (go_simp; try with_reducible rfl)); try simp only [Act.put, sA1, sA2, sA3]
                refine wpAnyH_ready (rs := [13]) (by kernel_rfl) (by simp) ?_
                refine AllReadyH.cons (o := _) rfl (fun K hK => ?_) ?_
                ·
                  rw [if_pos (by rfl)]
                  refine wp_store_rwy _ _ rfl rb M W1 r (q p) (cp p) q cp rfl rfl Mr.blk HR.out.1 ?_
                  intro w6 B6 k6
                  refine hK.out _ _ (hHeld.trans1 k6) (fun hHeld => ?_)
                  clear hK K
                  try simp only [Act.put, sA1, sA2, sA3]
                  refine tv (v := ?_) 14 (some 66) rfl (by kernel_rfl) (fun _ _ _ h => h) rfl rfl (fun w hSw => ?_) hHeld ?_; rotate_left; (· (go_simp; try with_reducible rfl)); try simp only [Act.put, sA1, sA2, sA3]
                  refine wpAnyH_ready (rs := [15]) (by kernel_rfl) (by simp) ?_
                  refine AllReadyH.cons (o := _) rfl (fun K hK => ?_) ?_
                  ·
                    rw [if_pos (by rfl)]
                    refine wp_store_rwy _ _ rfl rb M W1 p (q r) (cp r) _ _ rfl rfl B6 HP.out.2.1 ?_
                    intro w7 B7 k7
                    refine hK.out _ _ (hHeld.trans1 k7) (fun hHeld => ?_)
                    clear hK K
                    try simp only [Act.put, sA1, sA2, sA3]
                    refine wpAnyH_done (by kernel_rfl) ?_ _
                    have M3 := Mr.swap HR.out.1 HP.out.2.1 (k6.trans1 k7) B7
                    have I3 := Ia.chg hHeld HABR.out
                    clear Mr B6 B7 k6 k7 hHeld Ia
                    go_wp2_with fail
                    go_meet
                    case rel => exact ⟨by rw [← hq2, ← hcp2, ← hR2]; exact M3, I3⟩
                  exact AllReadyH.nil
                exact AllReadyH.nil
              exact AllReadyH.nil
            exact AllReadyH.nil
          case rest =>
            clear Mr Ia
            obtain ⟨Mr, Ia⟩ := hcut
            obtain ⟨w3, rfl⟩ : ∃ z, z = wc := ⟨wc, rfl⟩
            have HRc2 : Hid (R2 r c = R1 p c) := by show R2 r c = R1 p c; rw [← hR2]; show R1 (Q.swp r p r) c = R1 p c; rw [swp_c]
            have HNq2 : Hid (NqP q2 M ab) := fun i hi => by rw [← hq2]; exact HNq.out _ (Q.swp_lt HR.out.1 HP.out.2.1 hi)
            have HRR : Hid (∀ i j, i < M → j < W1 → R256 (R2 i j)) := fun i j hi hj => r256_rl (Mr.rl i j hi hj)
            have HRL2 : Hid (∀ i j, i < M → j < W1 → RL (R2 i j)) := fun i j hi hj => Mr.rl i j hi hj
            obtain ⟨V, hV⟩ : ∃ V, iv (R2 r c) = V := ⟨_, rfl⟩
            have HRV : Hid (R256 V) := by show R256 V; rw [← hV]; exact r256_rl (pw_rl _ _)
            have HG2 : Hid (GsQ R (gsI R2 r c V) M W (c + 1) (r + 1) (upS (upS A c (-1)) c ((r : Nat) : Int))) := by
              have z := HG.out.step HP.out.1 HP.out.2.1 (HRl.out p HP.out.2.1) HNZ.out
              rw [hR2, ← HRc2.out, hV] at z
              exact z
            have HNZ2 : Hid (eqn (cn (R2 r c)) 0 = false) := by show eqn (cn (R2 r c)) 0 = false; rw [HRc2.out]; exact HNZ.out
            have h2 : w3.cell? ⟨rb, r, none⟩ = some (.slice (some ⟨q2 r, 0, none⟩) W1 (cp2 r)) := Mr.cell HR.out.1
            have hrg : w3.rangeAt (q2 r) (c * 32) (feL (R2 r c)) := Mr.range HR.out.1 HC.out.2 rfl
            have er : IntKind.i64.wrap ((r : Int) + 1) = (r : Int) + 1 := by have := HB.out; have := HR.out; rw [IntKind.wrap_i64]; omega
            clear hq2 hcp2 hR2 HG HNZ
            go_wp2_with (refine load_sc rfl _ rfl (q2 r) (c * 32) (R2 r c) rfl hrg ?_)
            refine (Invert_q (HRL2.out r c HR.out.1 HC.out.2) HNZ2.out w3).mono ?_
            rintro e w4 ⟨rfl, k⟩
            rw [hV]
            have M4 := Mr.keep k
            have I4 := Ia.chg k (by simp)
            clear k h2 hrg Mr Ia hV
            go_wp2_with (first
              | (refine alloc_w rfl 24 rfl (.agg z32) zeroSc z32 rfl ?_; intro ub w5 hub B0 k1)
              | (refine store_w B0 rfl 24 _ _ (feC V) rfl rfl rfl feInfo rfl (feC_one _) ?_; intro w6 Bu k2))
            have HUG : Hid (¬ ub ∈ [q2 r]) := by have := M4.qlt HR.out.1; show ¬ ub ∈ [q2 r]; simp; omega
            have HABU : Hid (¬ ab ∈ [ub]) := by have := I4.lt; show ¬ ab ∈ [ub]; simp; omega
            have HABQ : Hid (¬ ab ∈ [q2 r]) := by have := HNq2.out r HR.out.1; show ¬ ab ∈ [q2 r]; simp; omega
            have HRBQ : Hid (¬ rb ∈ [q2 r]) := by have := M4.ne r HR.out.1; show ¬ rb ∈ [q2 r]; simp; omega
            have M5 : My w0 w6 rb M W1 q2 cp2 (gs1 R2 r V 0) := (M4.fresh k1 hub k2).congr (fun a b _ _ => gs1_0 R2 r V a b)
            have I5 := (I4.chg k1 (by simp)).chg k2 HABU.out
            clear k1 k2 B0 hub M4 I4
            --CUT3
            go_loopw [13] (fun t wr => ∃ i : Nat, i ≤ W1 ∧ t = .int .i64 (i : Int) ∧ My w0 wr rb M W1 q2 cp2 (gs1 R2 r V i) ∧ Blk wr ub (feC V) 24 ∧ Ib wr ab W (upS A c (-1))) (fun t _ => (W1 - intOf t).toNat)
            case atStart => exact ⟨0, Nat.zero_le _, rfl, M5, Bu, I5⟩
            case round =>
              clear M5 Bu I5
              obtain ⟨i, hi, rfl, Mq, Bu, Ia⟩ := hrel
              by_cases h : i < W1
              · have hI : (i : Int) < (W1 : Int) := by omega
                have hIl : (i : Int) ≤ (W : Int) := by have := HW1.out; omega
                have hI0 : (0 : Int) ≤ (i : Int) := by omega
                have ei : IntKind.i64.wrap ((i : Int) + 1) = (i : Int) + 1 := by have := HB.out; have := HW1.out; rw [IntKind.wrap_i64]; omega
                have HMs : Hid _ := mN W1 i h
                have HIW : Hid (i < W1) := h
                have HRi : Hid (R256 (R2 r i)) := HRR.out r i HR.out.1 h
                have HCr : Hid (wr.cell? ⟨rb, r, none⟩ = some (.slice (some ⟨q2 r, 0, none⟩) W1 (cp2 r))) := Mq.cell HR.out.1
                have HRBL : Hid (rb < wr.heap.size) := Mq.blk.lt
                clear h hi
                go_wp2_with fail
                refine wp_region_held_drew (S := fun w' => Chg wr w' [q2 r]) (by kernel_rfl) ((Chg.refl wr _).drew) (fun hHeld => ?_)
                replace Mq := Mq.drew
                refine tv (v := ?_) 0 (some 83) rfl (by kernel_rfl) (fun _ _ _ h => h) rfl rfl (fun w hSw => ?_) hHeld ?_; rotate_left; (· (go_simp; try with_reducible rfl)); try simp only [Act.put, sA1, sA2, sA3]
                refine tv (v := ?_) 1 (some 84) rfl (by kernel_rfl) (fun _ _ _ h => h) rfl rfl (fun w hSw => ?_) hHeld ?_; rotate_left; (· (go_simp; try with_reducible rfl)); try simp only [Act.put, sA1, sA2, sA3]
                refine tv (v := ?_) 2 (some 85) rfl (by kernel_rfl) (fun _ _ _ h => h) rfl rfl (fun w hSw => ?_) hHeld ?_; rotate_left; (· (go_simp; try with_reducible rfl)); try simp only [Act.put, sA1, sA2, sA3]
                refine tv (v := (.slice (some ⟨q2 r, 0, none⟩) W1 (cp2 r))) 3 (some 86) rfl (by kernel_rfl) (fun _ _ _ h => h) rfl rfl (fun w hSw => ?_) hHeld ?_
                · have hcc := cell_chg HCr.out HRBL.out hSw HRBQ.out
                  (go_simp; try with_reducible rfl)
                try simp only [Act.put, sA1, sA2, sA3]
                refine tv (v := ?_) 4 (some 87) rfl (by kernel_rfl) (fun _ _ _ h => h) rfl rfl (fun w hSw => ?_) hHeld ?_; rotate_left; (· (go_simp; try with_reducible rfl)); try simp only [Act.put, sA1, sA2, sA3]
                refine tv (v := ?_) 5 (some 88) rfl (by kernel_rfl) (fun _ _ _ h => h) rfl rfl (fun w hSw => ?_) hHeld ?_; rotate_left; (· (go_simp; try with_reducible rfl)); try simp only [Act.put, sA1, sA2, sA3]
                refine tv (v := ?_) 6 (some 89) rfl (by kernel_rfl) (fun _ _ _ h => h) rfl rfl (fun w hSw => ?_) hHeld ?_; rotate_left; (· (go_simp; try with_reducible rfl)); try simp only [Act.put, sA1, sA2, sA3]
                refine tv (v := ?_) 7 (some 90) rfl (by kernel_rfl) (fun _ _ _ h => h) rfl rfl (fun w hSw => ?_) hHeld ?_; rotate_left; (· (go_simp; try with_reducible rfl)); try simp only [Act.put, sA1, sA2, sA3]
                refine tv (v := (.slice (some ⟨q2 r, 0, none⟩) W1 (cp2 r))) 8 (some 91) rfl (by kernel_rfl) (fun _ _ _ h => h) rfl rfl (fun w hSw => ?_) hHeld ?_
                · have hcc := cell_chg HCr.out HRBL.out hSw HRBQ.out
                  (go_simp; try with_reducible rfl)
                try simp only [Act.put, sA1, sA2, sA3]
                refine tv (v := ?_) 9 (some 92) rfl (by kernel_rfl) (fun _ _ _ h => h) rfl rfl (fun w hSw => ?_) hHeld ?_; rotate_left; (· (go_simp; try with_reducible rfl)); try simp only [Act.put, sA1, sA2, sA3]
                refine tv (v := ?_) 10 (some 93) rfl (by kernel_rfl) (fun _ _ _ h => h) rfl rfl (fun w hSw => ?_) hHeld ?_; rotate_left; (· (go_simp; try with_reducible rfl)); try simp only [Act.put, sA1, sA2, sA3]
                refine take_load 12 (some 95) (feC V) rfl (by kernel_rfl) (by kernel_rfl) (by kernel_rfl) (fun _ _ _ h => h) rfl rfl 24 _ rfl ub rfl 24 _ (fun w h => Bu.chg h HUG.out) Tryz.underlying24 rfl (by first | exact feInfo | kernel_rfl) hHeld ?_
                try simp only [Act.put, sA1, sA2, sA3]
                refine wpAnyH_ready (rs := [11]) (by kernel_rfl) (by simp) ?_
                refine AllReadyH.cons (o := _) rfl (fun K hK => ?_) ?_
                ·
                  rw [if_pos (by rfl)]
                  refine wp_load_mid 24 _ rfl (q2 r) (i * 32) rfl (feL (R2 r i)) _ (Mq.range HR.out.1 HIW.out (gs1_at R2 r V i)) Tryz.underlying24 rfl feInfo ?_
                  refine hK.out _ _ (hHeld) (fun hHeld => ?_)
                  clear hK K
                  try simp only [Act.put, sA1, sA2, sA3]
                  refine wpAnyH_ready (rs := [13]) (by kernel_rfl) (by simp) ?_
                  refine AllReadyH.cons (o := _) rfl (fun K hK => ?_) ?_
                  ·
                    go_simp
                    refine (Mul_q _ _ HRi.out HRV.out _).mono ?_
                    rintro e w5 ⟨rfl, k⟩
                    replace Mq := Mq.keep k
                    go_wp2_with fail
                    refine hK.out _ _ (hHeld.trans1 k.wide) (fun hHeld => ?_)
                    clear hK K
                    try simp only [Act.put, sA1, sA2, sA3]
                    clear k
                    refine tv (v := ?_) 14 (some 97) rfl (by kernel_rfl) (fun _ _ _ h => h) rfl rfl (fun w hSw => ?_) hHeld ?_; rotate_left; (· (go_simp; try with_reducible rfl)); try simp only [Act.put, sA1, sA2, sA3]
                    refine wpAnyH_ready (rs := [15]) (by kernel_rfl) (by simp) ?_
                    refine AllReadyH.cons (o := _) rfl (fun K hK => ?_) ?_
                    ·
                      rw [if_pos (by rfl)]
                      refine wp_store_my _ _ rfl Mq r i _ rfl rfl HR.out.1 HIW.out (rl_mod _) ?_
                      intro w6 M6 k6
                      refine hK.out _ _ (hHeld.trans1 k6) (fun hHeld => ?_)
                      clear hK K
                      try simp only [Act.put, sA1, sA2, sA3]
                      refine wpAnyH_done (by kernel_rfl) ?_ _
                      replace Bu := Bu.chg hHeld HUG.out
                      have I6 := Ia.chg hHeld HABQ.out
                      clear Mq k6 hHeld Ia
                      go_wp2_with fail
                      go_roundw
                      case rel => exact ⟨i + 1, HIW.out, by go_num, M6.congr (fun a b _ _ => gs1_step R2 r V i a b), Bu, I6⟩
                      case measure => exact HMs.out
                    exact AllReadyH.nil
                  exact AllReadyH.nil
                exact AllReadyH.nil
              · obtain rfl : W1 = i := by omega
                have hIl : ¬ (W1 : Int) ≤ (W : Int) := by omega
                have M6 : My w0 wr rb M W1 q2 cp2 (gt2 R2 r c V 0) := Mq.congr (fun a b _ hb => gs1_end R2 r c V a b hb)
                clear Mq h hi Bu HUG HABQ HRBQ
                go_wp2_with fail
                --CUT4
                go_loopw [14] (fun t wr => ∃ i : Nat, i ≤ M ∧ t = .int .i64 (i : Int) ∧ My w0 wr rb M W1 q2 cp2 (gt2 R2 r c V i) ∧ Ib wr ab W (upS A c (-1))) (fun t _ => (M - intOf t).toNat)
                case atStart => exact ⟨0, Nat.zero_le _, rfl, M6, Ia⟩
                case round =>
                  clear M6 Ia
                  obtain ⟨i, hi, rfl, Mr, Ia⟩ := hrel
                  by_cases h : i < M
                  · have hI : (i : Int) < (M : Int) := by omega
                    have hI0 : (0 : Int) ≤ (i : Int) := by omega
                    have ei : IntKind.i64.wrap ((i : Int) + 1) = (i : Int) + 1 := by have := HB.out; rw [IntKind.wrap_i64]; omega
                    have HMi : Hid _ := mN M i h
                    have HI : Hid (i < M) := h
                    have h2 : wr.cell? ⟨rb, i, none⟩ = some (.slice (some ⟨q2 i, 0, none⟩) W1 (cp2 i)) := Mr.cell h
                    obtain ⟨F, hF⟩ : ∃ F, gt2 R2 r c V i i c = F := ⟨_, rfl⟩
                    have hrg : wr.rangeAt (q2 i) (c * 32) (feL F) := Mr.range h HC.out.2 hF
                    have HRLF : Hid (RL F) := by show RL F; rw [← hF]; exact Mr.rl i c h HC.out.2
                    have HRF : Hid (R256 F) := r256_rl HRLF.out
                    clear h hi
                    go_upto_region 24 with (first
                      | (with_reducible refine load_sc ?_ (.tmp 109) ?_ (q2 i) (c * 32) F ?_ hrg ?_
                         · rfl
                         · rfl
                         · rfl)
                      | (refine alloc_w rfl 24 rfl (.agg z32) zeroSc z32 rfl ?_; intro fb w5 hfb B0 k1)
                      | (refine store_w B0 rfl 24 _ _ (feC F) rfl rfl rfl feInfo rfl (feC_one _) ?_; intro w6 Bf k2))
                    have HFG : Hid (¬ fb ∈ [q2 i]) := by have := Mr.qlt HI.out; show ¬ fb ∈ [q2 i]; simp; omega
                    have HABF : Hid (¬ ab ∈ [fb]) := by have := Ia.lt; show ¬ ab ∈ [fb]; simp; omega
                    have M7 := Mr.fresh k1 hfb k2
                    have I7 := (Ia.chg k1 (by simp)).chg k2 HABF.out
                    clear k1 k2 B0 hfb Mr Ia h2 hrg
                    --CUT5
                    by_cases hir : i = r
                    · subst hir
                      have hirb : ((i : Int) == (i : Int)) = true := by simp
                      clear hF
                      go_wp2_with fail
                      go_roundw
                      case rel => exact ⟨i + 1, HI.out, by go_num, M7.congr (fun a b _ _ => gt2_own R2 i c V a b), I7⟩
                      case measure => exact HMi.out
                    · have hirb : ((i : Int) == (r : Int)) = false := by simp; omega
                      have HIR : Hid (¬ i = r) := hir
                      have HF : Hid (R2 i c = F) := by show R2 i c = F; rw [← hF, gt2_i R2 r c V hir c]
                      clear hir hF
                      go_wp2_with (refine load_gG Bf (.tmp 15) ?_ rfl rfl ?_; · rfl)
                      --CUT6
                      by_cases hz : F = 0
                      · refine (IsZero_q F HRF.out true (by rw [eq0_is HRLF.out]; exact decide_eq_true hz) _).mono ?_
                        rintro e w8 ⟨rfl, k⟩
                        have HZ : Hid (R2 i c = 0) := by show R2 i c = 0; rw [HF.out]; exact hz
                        have M8 := M7.keep k
                        have I8 := I7.chg k (by simp)
                        clear k hz M7 I7 Bf
                        go_wp2_with fail
                        go_roundw
                        case rel => exact ⟨i + 1, HI.out, by go_num, M8.congr (fun a b _ _ => gt2_zero R2 r c V HIR.out HZ.out a b), I8⟩
                        case measure => exact HMi.out
                      · refine (IsZero_q F HRF.out false (by rw [eq0_is HRLF.out]; exact decide_eq_false hz) _).mono ?_
                        rintro e w8 ⟨rfl, k⟩
                        have HZ : Hid (¬ R2 i c = 0) := by show ¬ R2 i c = 0; rw [HF.out]; exact hz
                        have M8 : My w0 w8 rb M W1 q2 cp2 (gt3 R2 r c V i 0) := (M7.keep k).congr (fun a b _ _ => gt3_0 R2 r c V i a b)
                        have I8 := I7.chg k (by simp)
                        have B8 := Bf.chg k (by simp)
                        have HABQ : Hid (¬ ab ∈ [q2 i]) := by have := HNq2.out i HI.out; show ¬ ab ∈ [q2 i]; simp; omega
                        have HRBQ : Hid (¬ rb ∈ [q2 i]) := by have := M8.ne i HI.out; show ¬ rb ∈ [q2 i]; simp; omega
                        clear k hz M7 I7 Bf
                        go_wp2_with fail
                        --CUT7
                        go_loopw [16] (fun t wr => ∃ m : Nat, m ≤ W1 ∧ t = .int .i64 (m : Int) ∧ My w0 wr rb M W1 q2 cp2 (gt3 R2 r c V i m) ∧ Blk wr fb (feC F) 24 ∧ Ib wr ab W (upS A c (-1))) (fun t _ => (W1 - intOf t).toNat)
                        case atStart => exact ⟨0, Nat.zero_le _, rfl, M8, B8, I8⟩
                        case round =>
                          clear M8 B8 I8
                          obtain ⟨m, hm, rfl, Mq, Bf, Ia⟩ := hrel
                          by_cases h : m < W1
                          · have hJ : (m : Int) < (W1 : Int) := by omega
                            have hJl : (m : Int) ≤ (W : Int) := by have := HW1.out; omega
                            have hJ0 : (0 : Int) ≤ (m : Int) := by omega
                            have em : IntKind.i64.wrap ((m : Int) + 1) = (m : Int) + 1 := by have := HB.out; have := HW1.out; rw [IntKind.wrap_i64]; omega
                            have HMs : Hid _ := mN W1 m h
                            have HIW : Hid (m < W1) := h
                            have HRi : Hid (R256 (R2 i m)) := HRR.out i m HI.out h
                            have HRo : Hid (R256 (ml (R2 r m) V)) := r256_mod _
                            have HCi : Hid (wr.cell? ⟨rb, i, none⟩ = some (.slice (some ⟨q2 i, 0, none⟩) W1 (cp2 i))) := Mq.cell HI.out
                            have HCr : Hid (wr.cell? ⟨rb, r, none⟩ = some (.slice (some ⟨q2 r, 0, none⟩) W1 (cp2 r))) := Mq.cell HR.out.1
                            have HRBL : Hid (rb < wr.heap.size) := Mq.blk.lt
                            have HRc : Hid (wr.rangeAt (q2 r) (m * 32) (feL (ml (R2 r m) V))) := Mq.range HR.out.1 h (gt3_r R2 r c V HIR.out m m)
                            have HLc : Hid (q2 r < wr.heap.size) := Mq.qlt HR.out.1
                            have HQR : Hid (¬ q2 r ∈ [q2 i]) := by show ¬ q2 r ∈ [q2 i]; simp; intro x; exact HIR.out (Mq.inj i r HI.out HR.out.1 x.symm)
                            clear h hm
                            go_wp2_with fail
                            refine wp_region_held_drew (S := fun w' => Chg wr w' [q2 i]) (by kernel_rfl) ((Chg.refl wr _).drew) (fun hHeld => ?_)
                            replace Mq := Mq.drew
                            refine tv (v := ?_) 0 (some 123) rfl (by kernel_rfl) (fun _ _ _ h => h) rfl rfl (fun w hSw => ?_) hHeld ?_; rotate_left; (· (go_simp; try with_reducible rfl)); try simp only [Act.put, sA1, sA2, sA3]
                            refine tv (v := ?_) 1 (some 124) rfl (by kernel_rfl) (fun _ _ _ h => h) rfl rfl (fun w hSw => ?_) hHeld ?_; rotate_left; (· (go_simp; try with_reducible rfl)); try simp only [Act.put, sA1, sA2, sA3]
                            refine tv (v := ?_) 2 (some 125) rfl (by kernel_rfl) (fun _ _ _ h => h) rfl rfl (fun w hSw => ?_) hHeld ?_; rotate_left; (· (go_simp; try with_reducible rfl)); try simp only [Act.put, sA1, sA2, sA3]
                            refine tv (v := (.slice (some ⟨q2 i, 0, none⟩) W1 (cp2 i))) 3 (some 126) rfl (by kernel_rfl) (fun _ _ _ h => h) rfl rfl (fun w hSw => ?_) hHeld ?_
                            · have hcc := cell_chg HCi.out HRBL.out hSw HRBQ.out
                              (go_simp; try with_reducible rfl)
                            try simp only [Act.put, sA1, sA2, sA3]
                            refine tv (v := ?_) 4 (some 127) rfl (by kernel_rfl) (fun _ _ _ h => h) rfl rfl (fun w hSw => ?_) hHeld ?_; rotate_left; (· (go_simp; try with_reducible rfl)); try simp only [Act.put, sA1, sA2, sA3]
                            refine tv (v := ?_) 5 (some 128) rfl (by kernel_rfl) (fun _ _ _ h => h) rfl rfl (fun w hSw => ?_) hHeld ?_; rotate_left; (· (go_simp; try with_reducible rfl)); try simp only [Act.put, sA1, sA2, sA3]
                            refine tv (v := ?_) 6 (some 129) rfl (by kernel_rfl) (fun _ _ _ h => h) rfl rfl (fun w hSw => ?_) hHeld ?_; rotate_left; (· (go_simp; try with_reducible rfl)); try simp only [Act.put, sA1, sA2, sA3]
                            refine tv (v := ?_) 7 (some 130) rfl (by kernel_rfl) (fun _ _ _ h => h) rfl rfl (fun w hSw => ?_) hHeld ?_; rotate_left; (· (go_simp; try with_reducible rfl)); try simp only [Act.put, sA1, sA2, sA3]
                            refine tv (v := (.slice (some ⟨q2 i, 0, none⟩) W1 (cp2 i))) 8 (some 131) rfl (by kernel_rfl) (fun _ _ _ h => h) rfl rfl (fun w hSw => ?_) hHeld ?_
                            · have hcc := cell_chg HCi.out HRBL.out hSw HRBQ.out
                              (go_simp; try with_reducible rfl)
                            try simp only [Act.put, sA1, sA2, sA3]
                            refine tv (v := ?_) 9 (some 132) rfl (by kernel_rfl) (fun _ _ _ h => h) rfl rfl (fun w hSw => ?_) hHeld ?_; rotate_left; (· (go_simp; try with_reducible rfl)); try simp only [Act.put, sA1, sA2, sA3]
                            refine tv (v := ?_) 10 (some 133) rfl (by kernel_rfl) (fun _ _ _ h => h) rfl rfl (fun w hSw => ?_) hHeld ?_; rotate_left; (· (go_simp; try with_reducible rfl)); try simp only [Act.put, sA1, sA2, sA3]
                            refine take_load 12 (some 135) (feC F) rfl (by kernel_rfl) (by kernel_rfl) (by kernel_rfl) (fun _ _ _ h => h) rfl rfl 24 _ rfl fb rfl 24 _ (fun w h => Bf.chg h HFG.out) Tryz.underlying24 rfl (by first | exact feInfo | kernel_rfl) hHeld ?_
                            try simp only [Act.put, sA1, sA2, sA3]
                            refine tv (v := ?_) 13 (some 136) rfl (by kernel_rfl) (fun _ _ _ h => h) rfl rfl (fun w hSw => ?_) hHeld ?_; rotate_left; (· (go_simp; try with_reducible rfl)); try simp only [Act.put, sA1, sA2, sA3]
                            refine tv (v := ?_) 14 (some 137) rfl (by kernel_rfl) (fun _ _ _ h => h) rfl rfl (fun w hSw => ?_) hHeld ?_; rotate_left; (· (go_simp; try with_reducible rfl)); try simp only [Act.put, sA1, sA2, sA3]
                            refine tv (v := ?_) 15 (some 138) rfl (by kernel_rfl) (fun _ _ _ h => h) rfl rfl (fun w hSw => ?_) hHeld ?_; rotate_left; (· (go_simp; try with_reducible rfl)); try simp only [Act.put, sA1, sA2, sA3]
                            refine tv (v := (.slice (some ⟨q2 r, 0, none⟩) W1 (cp2 r))) 16 (some 139) rfl (by kernel_rfl) (fun _ _ _ h => h) rfl rfl (fun w hSw => ?_) hHeld ?_
                            · have hcc := cell_chg HCr.out HRBL.out hSw HRBQ.out
                              (go_simp; try with_reducible rfl)
                            try simp only [Act.put, sA1, sA2, sA3]
                            refine tv (v := ?_) 17 (some 140) rfl (by kernel_rfl) (fun _ _ _ h => h) rfl rfl (fun w hSw => ?_) hHeld ?_; rotate_left; (· (go_simp; try with_reducible rfl)); try simp only [Act.put, sA1, sA2, sA3]
                            refine tv (v := ?_) 18 (some 141) rfl (by kernel_rfl) (fun _ _ _ h => h) rfl rfl (fun w hSw => ?_) hHeld ?_; rotate_left; (· (go_simp; try with_reducible rfl)); try simp only [Act.put, sA1, sA2, sA3]
                            refine tv (v := (.agg (feC (ml (R2 r m) V)))) 19 (some 142) rfl (by kernel_rfl) (fun _ _ _ h => h) rfl rfl (fun w hSw => ?_) hHeld ?_
                            · exact exec_mid w 24 _ rfl (q2 r) (m * 32) rfl (feL (ml (R2 r m) V)) _ (rangeAt_chg HRc.out HLc.out hSw HQR.out) Tryz.underlying24 rfl feInfo
                            try simp only [Act.put, sA1, sA2, sA3]
                            refine wpAnyH_ready (rs := [11, 20]) (by kernel_rfl) (by simp) ?_
                            refine AllReadyH.cons (o := _) rfl (fun K hK => ?_) ?_
                            ·
                              rw [if_pos (by rfl)]
                              refine wp_load_mid 24 _ rfl (q2 i) (m * 32) rfl (feL (R2 i m)) _ (Mq.range HI.out HIW.out (gt3_at R2 r c V HIR.out m)) Tryz.underlying24 rfl feInfo ?_
                              refine hK.out _ _ (hHeld) (fun hHeld => ?_)
                              clear hK K
                              try simp only [Act.put, sA1, sA2, sA3]
                              refine wpAnyH_ready (rs := [20]) (by kernel_rfl) (by simp) ?_
                              refine AllReadyH.cons (o := _) rfl (fun K hK => ?_) ?_
                              ·
                                go_simp
                                refine (Mul_q _ _ HRF.out HRo.out _).mono ?_
                                rintro e w5 ⟨rfl, k⟩
                                replace Mq := Mq.keep k
                                go_wp2_with fail
                                refine hK.out _ _ (hHeld.trans1 k.wide) (fun hHeld => ?_)
                                clear hK K
                                try simp only [Act.put, sA1, sA2, sA3]
                                clear k
                                refine wpAnyH_ready (rs := [21]) (by kernel_rfl) (by simp) ?_
                                refine AllReadyH.cons (o := _) rfl (fun K hK => ?_) ?_
                                ·
                                  go_simp
                                  refine (Sub_q _ _ HRi.out (r256_mod _) _).mono ?_
                                  rintro e w5 ⟨rfl, k⟩
                                  replace Mq := Mq.keep k
                                  go_wp2_with fail
                                  refine hK.out _ _ (hHeld.trans1 k.wide) (fun hHeld => ?_)
                                  clear hK K
                                  try simp only [Act.put, sA1, sA2, sA3]
                                  clear k
                                  refine tv (v := ?_) 22 (some 145) rfl (by kernel_rfl) (fun _ _ _ h => h) rfl rfl (fun w hSw => ?_) hHeld ?_; rotate_left; (· (go_simp; try with_reducible rfl)); try simp only [Act.put, sA1, sA2, sA3]
                                  refine wpAnyH_ready (rs := [23]) (by kernel_rfl) (by simp) ?_
                                  refine AllReadyH.cons (o := _) rfl (fun K hK => ?_) ?_
                                  ·
                                    rw [if_pos (by rfl)]
                                    refine wp_store_my _ _ rfl Mq i m _ rfl rfl HI.out HIW.out (rl_mod _) ?_
                                    intro w6 M6 k6
                                    refine hK.out _ _ (hHeld.trans1 k6) (fun hHeld => ?_)
                                    clear hK K
                                    try simp only [Act.put, sA1, sA2, sA3]
                                    refine wpAnyH_done (by kernel_rfl) ?_ _
                                    replace Bf := Bf.chg hHeld HFG.out
                                    have I6 := Ia.chg hHeld HABQ.out
                                    clear Mq k6 hHeld Ia HRc HLc
                                    go_wp2_with fail
                                    go_roundw
                                    case rel => exact ⟨m + 1, HIW.out, by go_num, M6.congr (fun a b _ _ => by rw [← HF.out]; exact gt3_step R2 r c V i m a b), Bf, I6⟩
                                    case measure => exact HMs.out
                                  exact AllReadyH.nil
                                exact AllReadyH.nil
                              exact AllReadyH.nil
                            refine AllReadyH.cons (o := _) rfl (fun K hK => ?_) ?_
                            ·
                              go_simp
                              refine (Mul_q _ _ HRF.out HRo.out _).mono ?_
                              rintro e w5 ⟨rfl, k⟩
                              replace Mq := Mq.keep k
                              go_wp2_with fail
                              refine hK.out _ _ (hHeld.trans1 k.wide) (fun hHeld => ?_)
                              clear hK K
                              try simp only [Act.put, sA1, sA2, sA3]
                              clear k
                              refine wpAnyH_ready (rs := [11]) (by kernel_rfl) (by simp) ?_
                              refine AllReadyH.cons (o := _) rfl (fun K hK => ?_) ?_
                              ·
                                rw [if_pos (by rfl)]
                                refine wp_load_mid 24 _ rfl (q2 i) (m * 32) rfl (feL (R2 i m)) _ (Mq.range HI.out HIW.out (gt3_at R2 r c V HIR.out m)) Tryz.underlying24 rfl feInfo ?_
                                refine hK.out _ _ (hHeld) (fun hHeld => ?_)
                                clear hK K
                                try simp only [Act.put, sA1, sA2, sA3]
                                refine wpAnyH_ready (rs := [21]) (by kernel_rfl) (by simp) ?_
                                refine AllReadyH.cons (o := _) rfl (fun K hK => ?_) ?_
                                ·
                                  go_simp
                                  refine (Sub_q _ _ HRi.out (r256_mod _) _).mono ?_
                                  rintro e w5 ⟨rfl, k⟩
                                  replace Mq := Mq.keep k
                                  go_wp2_with fail
                                  refine hK.out _ _ (hHeld.trans1 k.wide) (fun hHeld => ?_)
                                  clear hK K
                                  try simp only [Act.put, sA1, sA2, sA3]
                                  clear k
                                  refine tv (v := ?_) 22 (some 145) rfl (by kernel_rfl) (fun _ _ _ h => h) rfl rfl (fun w hSw => ?_) hHeld ?_; rotate_left; (· (go_simp; try with_reducible rfl)); try simp only [Act.put, sA1, sA2, sA3]
                                  refine wpAnyH_ready (rs := [23]) (by kernel_rfl) (by simp) ?_
                                  refine AllReadyH.cons (o := _) rfl (fun K hK => ?_) ?_
                                  ·
                                    rw [if_pos (by rfl)]
                                    refine wp_store_my _ _ rfl Mq i m _ rfl rfl HI.out HIW.out (rl_mod _) ?_
                                    intro w6 M6 k6
                                    refine hK.out _ _ (hHeld.trans1 k6) (fun hHeld => ?_)
                                    clear hK K
                                    try simp only [Act.put, sA1, sA2, sA3]
                                    refine wpAnyH_done (by kernel_rfl) ?_ _
                                    replace Bf := Bf.chg hHeld HFG.out
                                    have I6 := Ia.chg hHeld HABQ.out
                                    clear Mq k6 hHeld Ia HRc HLc
                                    go_wp2_with fail
                                    go_roundw
                                    case rel => exact ⟨m + 1, HIW.out, by go_num, M6.congr (fun a b _ _ => by rw [← HF.out]; exact gt3_step R2 r c V i m a b), Bf, I6⟩
                                    case measure => exact HMs.out
                                  exact AllReadyH.nil
                                exact AllReadyH.nil
                              exact AllReadyH.nil
                            exact AllReadyH.nil
                          · obtain rfl : W1 = m := by omega
                            have hJl : ¬ (W1 : Int) ≤ (W : Int) := by omega
                            have M9 : My w0 wr rb M W1 q2 cp2 (gt2 R2 r c V (i + 1)) := Mq.congr (fun a b _ hb => gt3_end R2 r c V HIR.out HZ.out a b hb)
                            clear Mq h hm Bf
                            go_wp2_with fail
                            go_roundw
                            case rel => exact ⟨i + 1, HI.out, by go_num, M9, Ia⟩
                            case measure => exact HMi.out
                  · obtain rfl : M = i := by omega
                    have hI : ¬ (M : Int) < (M : Int) := by omega
                    have M7 : My w0 wr rb M W1 q2 cp2 (gsI R2 r c V) := Mr.congr (fun a b ha _ => gt2_end R2 r c V ha b)
                    clear Mr h hi
                    go_wp2_with (refine store_ib rfl (.tmp 149) (.tmp 148) rfl ab W c (upS A c (-1)) ((r : Nat) : Int) rfl rfl Ia HC.out.1 ?_; intro wa Ia1 ka)
                    have M8 := M7.off ka HAB.out HRA.out HNq2.out
                    clear ka M7 Ia
                    --CUT8
                    go_roundw
                    case rel => exact ⟨r + 1, c + 1, q2, cp2, gsI R2 r c V, _, HC.out.1, by go_num, by go_num, M8, Ia1, HG2.out, HNq2.out⟩
                    case measure => exact HMo.out
    · obtain rfl : W = c := by omega
      have hci : ¬ (W : Int) < (W : Int) := by omega
      have HA : Hid (∀ k, k < W → A k = -1 ∨ ∃ p : Nat, A k = (p : Int) ∧ p < M) := fun k hk => by
        haveI := LN_nz
        rcases HG.out.1.piv k hk with z | ⟨p, z, z2, _⟩
        · exact Or.inl z
        · exact Or.inr ⟨p, z, by have := HrM.out; omega⟩
      have HRl : Hid (∀ j, j < M → RL (R1 j W)) := fun j hj => Mr.rl j W hj (by have := HW1.out; omega)
      have HWl : Hid (W < W1) := by have := HW1.out; show W < W1; omega
      clear h hc
      go_upto_block 10 with fail
      --CUT9
      go_wp2_with fail
      go_loopw [17] (fun t wr => ∃ i : Nat, r ≤ i ∧ i ≤ M ∧ t = .int .i64 (i : Int) ∧ (∀ j, r ≤ j → j < i → R1 j W = 0) ∧ My w0 wr rb M W1 q cp R1 ∧ Ib wr ab W A) (fun t _ => (M - intOf t).toNat)
      case atStart => exact ⟨r, Nat.le_refl _, HrM.out, rfl, fun j h1 h2 => by omega, Mr, Ia⟩
      case round =>
        clear Mr Ia
        obtain ⟨i, hri, hiM, rfl, hz, Mr, Ia⟩ := hrel
        have HHz : Hid (∀ j, r ≤ j → j < i → R1 j W = 0) := hz
        clear hz
        by_cases h : i < M
        · have hI : (i : Int) < (M : Int) := by omega
          have hI0 : (0 : Int) ≤ (i : Int) := by omega
          have ei : IntKind.i64.wrap ((i : Int) + 1) = (i : Int) + 1 := by have := HB.out; rw [IntKind.wrap_i64]; omega
          have HI : Hid (i < M ∧ r ≤ i) := ⟨h, hri⟩
          have HMs : Hid _ := mN M i h
          have h2 : wr.cell? ⟨rb, i, none⟩ = some (.slice (some ⟨q i, 0, none⟩) W1 (cp i)) := Mr.cell h
          have hrg : wr.rangeAt (q i) (W * 32) (feL (R1 i W)) := Mr.range h HWl.out rfl
          clear h hri hiM
          go_wp2_with (refine load_sc rfl _ rfl (q i) (W * 32) (R1 i W) rfl hrg ?_)
          by_cases hz0 : R1 i W = 0
          · refine (IsZero_q (R1 i W) (r256_rl (HRl.out i HI.out.1)) true (by rw [eq0_is (HRl.out i HI.out.1)]; exact decide_eq_true hz0) wr).mono ?_
            rintro e w2 ⟨rfl, k⟩
            have HZ : Hid (R1 i W = 0) := hz0
            replace Mr := Mr.keep k
            replace Ia := Ia.chg k (by simp)
            clear k hz0 h2 hrg
            go_wp2_with fail
            go_roundw
            case rel => exact ⟨i + 1, by have := HI.out; omega, HI.out.1, by go_num, fun j a b => by
              by_cases e : j = i
              · rw [e]; exact HZ.out
              · exact HHz.out j a (by omega), Mr, Ia⟩
            case measure => exact HMs.out
          · refine (IsZero_q (R1 i W) (r256_rl (HRl.out i HI.out.1)) false (by rw [eq0_is (HRl.out i HI.out.1)]; exact decide_eq_false hz0) wr).mono ?_
            rintro e w2 ⟨rfl, k⟩
            have HNo : Hid (haveI := LN_nz; ∀ v : Nat → Fin LN, ¬ Q.Sol (zR R) M W v) := by
              haveI := LN_nz
              intro v hv
              refine HG.out.1.none HI.out.2 HI.out.1 (fun e => hz0 ?_) v ((HG.out.2 v).2 hv)
              exact (zq_is0 L_LN (HRl.out i HI.out.1)).1 e
            have C := Mr.chg.trans1 k
            clear k hz0 h2 hrg Mr Ia
            go_wp2_with fail
            go_ret2
            exact ⟨_, rfl, Or.inl ⟨rfl, HNo.out⟩, C⟩
        · obtain rfl : M = i := by omega
          have hI : ¬ (M : Int) < (M : Int) := by omega
          have HSo : Hid (haveI := LN_nz; Q.Sol (zR R) M W (fun k => if A k < 0 then 0 else zR R1 (A k).toNat W)) := by
            haveI := LN_nz
            exact (HG.out.2 _).1 (HG.out.1.out (fun j a b => by show zq LN (R1 j W) = 0; rw [HHz.out j a b]; exact zq_0))
          clear h hri hiM
          go_wp2_with (refine make_w rfl _ _ rfl W (by have := HB.out; omega) rfl rfl ?_; intro ob w4 hob So k4)
          have HOB : Hid (w0.heap.size ≤ ob) := by have := Mr.chg.size; show w0.heap.size ≤ ob; omega
          have HOR : Hid (¬ rb = ob) := by have := Mr.blk.lt; show ¬ rb = ob; omega
          have HOQ : Hid (∀ i, i < M → ¬ q i = ob) := fun i hi => by have := Mr.qlt hi; show ¬ q i = ob; omega
          have HOA : Hid (¬ ab ∈ [ob]) := by have := Ia.lt; show ¬ ab ∈ [ob]; simp; omega
          have M4 := Mr.keep k4
          have I4 := Ia.chg k4 (by simp)
          have S0 : Sb w4 ob W (oF R1 A W 0) := So.congr (fun j _ => (if_neg (by omega)).symm)
          clear k4 hob So Mr Ia
          --CUTA
          go_loopw [19] (fun t wr => ∃ i : Nat, i ≤ W ∧ t = .int .i64 (i : Int) ∧ Sb wr ob W (oF R1 A W i) ∧ My w0 wr rb M W1 q cp R1 ∧ Ib wr ab W A) (fun t _ => (W - intOf t).toNat)
          case atStart => exact ⟨0, Nat.zero_le _, rfl, S0, M4, I4⟩
          case round =>
            clear S0 M4 I4
            obtain ⟨i, hi, rfl, So, Mr, Ia⟩ := hrel
            by_cases h : i < W
            · have hI2 : (i : Int) < (W : Int) := by omega
              have hI0 : (0 : Int) ≤ (i : Int) := by omega
              have ei : IntKind.i64.wrap ((i : Int) + 1) = (i : Int) + 1 := by have := HB.out; rw [IntKind.wrap_i64]; omega
              have HI : Hid (i < W) := h
              have HMs : Hid _ := mN W i h
              have hca : wr.cell? ⟨ab, i, none⟩ = some (.int .i64 (A i)) := by
                have z := Blk.rangeRw Ia (iF_ok W A) h 0 (.int .i64 (A i)) rfl
                rwa [Nat.mul_one, Nat.add_zero] at z
              rcases HA.out i h with ha | ⟨p, ha, hpM⟩
              · rw [ha] at hca
                have S2 : Sb wr ob W (oF R1 A W (i + 1)) := So.congr (fun j _ => by
                  unfold oF
                  by_cases a : j < i
                  · rw [if_pos a, if_pos (show j < i + 1 by omega)]
                  · rw [if_neg a]
                    by_cases b : j = i
                    · subst b; rw [if_pos (show j < j + 1 by omega), ha, if_pos (by decide)]
                    · rw [if_neg (show ¬ j < i + 1 by omega)])
                clear h hi ha So
                go_wp2_with fail
                go_roundw
                case rel => exact ⟨i + 1, HI.out, by go_num, S2, Mr, Ia⟩
                case measure => exact HMs.out
              · rw [ha] at hca
                have hp0 : (0 : Int) ≤ (p : Int) := by omega
                have hpMi : (p : Int) < (M : Int) := by omega
                have hpn : ¬ (p : Int) < 0 := by omega
                have HPA : Hid (A i = (p : Int)) := ha
                have h2 : wr.cell? ⟨rb, p, none⟩ = some (.slice (some ⟨q p, 0, none⟩) W1 (cp p)) := Mr.cell hpM
                have hrg : wr.rangeAt (q p) (W * 32) (feL (R1 p W)) := Mr.range hpM HWl.out rfl
                clear h hi ha hpM
                go_wp2_with (first
                  | (with_reducible refine load_sc ?_ (.tmp 190) ?_ (q p) (W * 32) (R1 p W) ?_ hrg ?_
                     · rfl
                     · rfl
                     · rfl)
                  | (with_reducible refine store_sb ?_ (.tmp 192) (.tmp 191) ?_ ob W i _ (R1 p W) ?_ ?_ So HI.out ?_
                     · rfl
                     · rfl
                     · rfl
                     · rfl
                     intro w6 S6 k6))
                have M6 := Mr.off k6 HOB.out HOR.out HOQ.out
                have I6 := Ia.chg k6 HOA.out
                have S7 : Sb w6 ob W (oF R1 A W (i + 1)) := S6.congr (fun j _ => by
                  unfold upS oF
                  by_cases b : j = i
                  · subst b; rw [if_pos rfl, if_pos (show j < j + 1 by omega), HPA.out, if_neg (by omega), Int.toNat_natCast]
                  · rw [if_neg b]
                    by_cases a : j < i
                    · rw [if_pos a, if_pos (show j < i + 1 by omega)]
                    · rw [if_neg a, if_neg (show ¬ j < i + 1 by omega)])
                clear k6 Mr Ia So S6 h2 hrg hca
                go_roundw
                case rel => exact ⟨i + 1, HI.out, by go_num, S7, M6, I6⟩
                case measure => exact HMs.out
            · obtain rfl : W = i := by omega
              have hI2 : ¬ (W : Int) < (W : Int) := by omega
              go_wp2_with fail
              go_ret2
              refine ⟨_, rfl, Or.inr ⟨ob, _, rfl, HOB.out, So, fun j hj => ?_, ?_⟩, Mr.chg⟩
              · unfold oF
                rw [if_pos hj]
                rcases HA.out j hj with a | ⟨p, a, b⟩
                · rw [a, if_pos (by decide)]; exact rl_z
                · rw [a, if_neg (by omega), Int.toNat_natCast]; exact HRl.out p b
              · haveI := LN_nz
                have z := HSo.out
                intro a ha
                have z2 := z a ha
                rw [← z2]
                refine Q.sm_congr fun k hk => ?_
                have e : zq LN (oF R1 A W W k) = if A k < 0 then 0 else zR R1 (A k).toNat W := by
                  unfold oF
                  rw [if_pos hk]
                  by_cases n : A k < 0
                  · rw [if_pos n, if_pos n]; exact zq_0
                  · rw [if_neg n, if_neg n]; rfl
                show zR R a k * zq LN (oF R1 A W W k) = zR R a k * (if A k < 0 then 0 else zR R1 (A k).toNat W)
                rw [e]
end Go.Proofs.YtoafcaieifjoiaaGreat
