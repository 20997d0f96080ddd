/- rimeref12: Unbox. -/
import Derived.Test.YtachilkhbfpahaaSrBx
import Derived.Deep.DeepCutAuto
set_option linter.unusedVariables false
set_option linter.unusedSimpArgs false
set_option linter.unnecessarySimpa false
namespace Go.Proofs.Ytachilkhbfpahaa
open Go.RowKit

theorem OpR.parts {w : World} {b0 : Nat} {b : Bool} {N : Nat} {F : Nat → Nat} {e : Ending} {w' : World} (h : OpR w b0 b N F e w') : ∃ sv ev, e = .returned (.tuple #[sv, .int .i64 ev]) ∧ Chg w w' [] ∧
    ((b = true ∧ ev = 0 ∧ Own w' b0 sv N F) ∨ (b = false ∧ ev = 121 ∧ sv = .slice none 0 0)) := by
  rcases h with ⟨hb, v', rfl, O, k⟩ | ⟨hb, rfl, k⟩
  · exact ⟨_, _, rfl, k, Or.inl ⟨hb, rfl, O⟩⟩
  · exact ⟨_, _, rfl, k, Or.inr ⟨hb, rfl, rfl⟩⟩
/-- What the document's Unbox answers for 28 bytes and more. -/
def UbR (w : World) (b0 : Nat) (o b : Bool) (N num : Nat) (F : Nat → Nat) (e : Ending) (w' : World) : Prop :=
  (o = false ∧ e = .returned (.tuple #[.slice none 0 0, .int .u64 0, .int .i64 1]) ∧ Chg w w' []) ∨ (o = true ∧ b = false ∧ e = .returned (.tuple #[.slice none 0 0, .int .u64 0, .int .i64 121]) ∧ Chg w w' []) ∨
  (o = true ∧ b = true ∧ ∃ v', e = .returned (.tuple #[v', .int .u64 (num : Int), .int .i64 0]) ∧ Own w' b0 v' N F ∧ Chg w w' [])
theorem copy_yl {P : Program} {w : World} {ops : Array Oper} {rest : List Oper} {o : Oper} {a : Act} {Q : Exit → Act → World → Prop} (hgd : o.guard = none) (d s : Operand) (dT sT : TypeId)
    (ho : o.op = .call { callee := .builtin .copy, args := #[d, s], argTypes := #[dT, sT] }) (elem : TypeId) (hu : P.underlying dT = some (.slice elem)) (hsz : (P.info? elem).map (·.size) = some 1)
    (g at' dLen dCap : Nat) (sp : Option Addr) (sLen sCap : Nat) (hd : a.eval d = .slice (some ⟨g, at', none⟩) dLen dCap) (hs : a.eval s = .slice sp sLen sCap)
    (N : Nat) (t : Nat → Nat) (T : TypeId) (hg : Blk w g (yC N t) T) (n : Nat) (f : Nat → Nat) (hn : n = Nat.min sLen dLen) (h0 : 0 < n)
    (hsrc : ∃ gs os, sp = some ⟨gs, os, none⟩ ∧ ∀ j, j < n → w.cell? ⟨gs, os + j, none⟩ = some (.int .u8 (f j))) (hfit : at' + n ≤ N)
    (h : ∀ w', Blk w' g (yC N (lay t at' n f)) T → Chg w w' [g] → wpList P ops Q rest (a.put o.dst (goInt n)) w') : wpList P ops Q (o :: rest) a w :=
  wpList_plain hgd fun _ hK => copy_yz d s dT sT ho elem hu hsz g at' dLen dCap sp sLen sCap hd hs N t T hg n f hn h0 hsrc hfit fun w' q1 q2 => hK _ _ (h w' q1 q2)
theorem bxO_yes {f : Nat → Nat} (hf : ∀ i, i < 12 → f i < 256) (h : ∀ i, i < 4 → f i = 0) : bxO f = true := by
  unfold bxO
  rw [eqn_iff]
  intro i hi
  unfold ncB pl
  by_cases h4 : 4 ≤ i
  · rw [if_pos (by omega)]
    unfold bxN
    rw [le8_nle]
    obtain ⟨j, rfl⟩ : ∃ j, i = 4 + j := ⟨i - 4, by omega⟩
    rw [Nat.add_sub_cancel_left]
    obtain ⟨r, hr⟩ : ∃ r, 8 = j + (1 + r) := ⟨7 - j, by omega⟩
    rw [hr, nle_cut, nle_cut, Nat.add_mul_div_right _ _ (Nat.pow_pos (by decide)), Nat.div_eq_of_lt (nle_lt j (fun i hi => hf _ (by omega))), Nat.zero_add, Nat.pow_one]
    have q : nle (fun j_1 => f (4 + (j + j_1))) 1 = f (4 + j) := by simp [nle]
    rw [q]
    have := hf (4 + j) hi
    omega
  · rw [if_neg (by omega)]
    exact h i (by omega)
theorem bxO_no {f : Nat → Nat} (i : Nat) (hi : i < 4) (h : ¬ f i = 0) : bxO f = false := by
  unfold bxO
  exact eqn_no (fun q => h (by have := q i (by omega); rw [this]; unfold ncB pl; rw [if_neg (by omega)]))
set_option maxHeartbeats 8000000 in
set_option maxRecDepth 100000 in
theorem Unbox_rshort (k : Nat → Nat) (v0 v1 : Value) (n1 : Nat) (f1 : Nat → Nat) (w : World) (hv1 : Sz w v1 n1 f1) (hs : n1 < 28) :
    Calls Try.prog 25 #[.agg (yC 32 k), v0, v1] w fun e w' => e = .returned (.tuple #[.slice none 0 0, .int .u64 0, .int .i64 3]) ∧ Chg w w' [] := by
  obtain ⟨p1, c1, e1, _⟩ := id hv1
  subst e1
  have hI : (n1 : Int) < 28 := by omega
  clear hv1 hs
  go_enter Try.func25, Try.ntmps25
  go_wp2_with (refine box_w rfl 23 _ rfl (yC 32 k) rfl ?_; intro kb w1 hkb BK k1)
  go_ret3
  exact ⟨rfl, k1⟩
set_option maxHeartbeats 16000000 in
set_option maxRecDepth 100000 in
theorem Unbox_r (k : Nat → Nat) (hk : ∀ i, i < 32 → k i < 256) (v0 : Value) (n0 : Nat) (f0 : Nat → Nat) (v1 : Value) (N : Nat) (f : Nat → Nat) (w : World) (hv0 : Sz w v0 n0 f0) (hv1 : Sz w v1 (N + 28) f) (h0 : n0 ≤ 1099511627776) (hN : N ≤ 274877906880) (b0 : Nat) (hb0 : w.heap.size = b0) :
    Calls Try.prog 25 #[.agg (yC 32 k), v0, v1] w fun e w' => UbR w b0 (bxO f) (tagged k f n0 f0 N (fun i => f (12 + i))) N (bxN f) (xo (fun i => f (12 + i)) (ks k 1 f)) e w' := by
  have hfb := hv1.bd
  have HFB : Hid (∀ i, i < N + 28 → f i < 256) := hfb
  have HOP : Hid (∀ w' b1 vx, Sz w' v0 n0 f0 → Sz w' vx (N + 16) (fun i => f (12 + i)) → w'.heap.size = b1 → Calls Try.prog 21 #[.agg (yC 32 k), .agg (yC 12 f), v0, vx] w' fun e w'' => OpR w' b1 (tagged k f n0 f0 N (fun i => f (12 + i))) N (xo (fun i => f (12 + i)) (ks k 1 f)) e w'') := fun w' b1 vx a b h => Open_r k f hk (fun i hi => hfb i (by omega)) v0 n0 f0 vx N _ w' a b h0 hN b1 h
  have HYES : Hid ((∀ i, i < 4 → f i = 0) → bxO f = true) := fun h => bxO_yes (fun i hi => hfb i (by omega)) h
  have HNO : Hid (∀ i, i < 4 → ¬ f i = 0 → bxO f = false) := fun i hi h => bxO_no i hi h
  have HNM : Hid (bxN f = nle (fun i => f (4 + i)) 8) := by show bxN f = _; unfold bxN; exact le8_nle _
  obtain ⟨tg, htg⟩ : ∃ b, tagged k f n0 f0 N (fun i => f (12 + i)) = b := ⟨_, rfl⟩
  obtain ⟨X, hX⟩ : ∃ X, xo (fun i => f (12 + i)) (ks k 1 f) = X := ⟨_, rfl⟩
  rw [htg, hX] at HOP ⊢
  obtain ⟨ow, how⟩ : ∃ b, bxO f = b := ⟨_, rfl⟩
  rw [how] at HYES HNO ⊢
  obtain ⟨nm, hnm⟩ : ∃ m, bxN f = m := ⟨_, rfl⟩
  rw [hnm] at HNM ⊢
  obtain ⟨p1, c, e1, h1, h2, h3⟩ := hv1
  subst e1
  obtain ⟨g, o, rfl, hb⟩ := h3 (by omega)
  have HB : Hid (Bs w g o (N + 28) f ∧ N + 28 ≤ c ∧ c ≤ 9223372036854775807) := ⟨hb, h1, h2⟩
  have HS1 : Hid (Sz w (.slice (some ⟨g, o + 12, none⟩) (N + 16) (c - 12)) (N + 16) (fun i => f (12 + i)) ∧ Sz w v0 n0 f0) := ⟨⟨_, c - 12, rfl, by omega, by omega, fun _ => ⟨g, o + 12, rfl, hb.sub 12 (N + 16) (by omega)⟩⟩, hv0⟩
  have HB0 : Hid (w.heap.size = b0) := hb0
  obtain ⟨n, hnn⟩ : ∃ n, N + 28 = n := ⟨_, rfl⟩
  have HNN : Hid (N + 28 = n ∧ N ≤ 274877906880) := ⟨hnn, hN⟩
  have hI : ¬ (n : Int) < 28 := by omega
  have q0 : (0 : Int) < (n : Int) := by omega
  have q1 : (1 : Int) < (n : Int) := by omega
  have q2 : (2 : Int) < (n : Int) := by omega
  have q3 : (3 : Int) < (n : Int) := by omega
  have q12 : (12 : Int) ≤ (n : Int) := by omega
  have qc : (n : Int) ≤ (c : Int) := by omega
  have qd : ¬ c = 12 := by omega
  have qe : n - 12 = N + 16 := by omega
  rw [hnn]
  clear hk htg hX how hnm hv0 h0 h1 h2 h3 hb hb0 hnn hN hfb
  go_enter Try.func25, Try.ntmps25
  go_upto_region 3 with (refine box_w rfl 23 _ rfl (yC 32 k) rfl ?_; intro kb w1 hkb BK k1)
  go_cut [38] (fun t38 wc => t38 = .bool (!ow) ∧ Chg w1 wc [])
  case first =>
    have c0 := (HB.out.1.chg k1 (by simp)).cell 0 (by omega)
    have c1 := (HB.out.1.chg k1 (by simp)).cell 1 (by omega)
    have c2 := (HB.out.1.chg k1 (by simp)).cell 2 (by omega)
    have c3 := (HB.out.1.chg k1 (by simp)).cell 3 (by omega)
    rw [Nat.add_zero] at c0
    by_cases a0 : f 0 = 0
    · rw [a0] at c0
      by_cases a1 : f 1 = 0
      · rw [a1] at c1
        by_cases a2 : f 2 = 0
        · rw [a2] at c2
          by_cases a3 : f 3 = 0
          · rw [a3] at c3
            have h := HYES.out (fun i hi => by
              have h4 : i = 0 ∨ i = 1 ∨ i = 2 ∨ i = 3 := by omega
              rcases h4 with rfl | rfl | rfl | rfl <;> assumption)
            clear a0 a1 a2 a3
            subst h
            go_wp2_with fail
            go_meet
            case rel => exact ⟨rfl, Chg.refl _ _⟩
          · have h := HNO.out 3 (by decide) a3
            obtain ⟨x, hx⟩ : ∃ x, f 3 = x := ⟨_, rfl⟩
            rw [hx] at c3 a3
            have e3 : ((x : Int) != 0) = true := by simp; omega
            clear a0 a1 a2 a3 hx
            subst h
            go_wp2_with fail
            go_meet
            case rel => exact ⟨rfl, Chg.refl _ _⟩
        · have h := HNO.out 2 (by decide) a2
          obtain ⟨x, hx⟩ : ∃ x, f 2 = x := ⟨_, rfl⟩
          rw [hx] at c2 a2
          have e3 : ((x : Int) != 0) = true := by simp; omega
          clear a0 a1 a2 hx
          subst h
          go_wp2_with fail
          go_meet
          case rel => exact ⟨rfl, Chg.refl _ _⟩
      · have h := HNO.out 1 (by decide) a1
        obtain ⟨x, hx⟩ : ∃ x, f 1 = x := ⟨_, rfl⟩
        rw [hx] at c1 a1
        have e3 : ((x : Int) != 0) = true := by simp; omega
        clear a0 a1 hx
        subst h
        go_wp2_with fail
        go_meet
        case rel => exact ⟨rfl, Chg.refl _ _⟩
    · have h := HNO.out 0 (by decide) a0
      obtain ⟨x, hx⟩ : ∃ x, f 0 = x := ⟨_, rfl⟩
      rw [hx] at c0 a0
      have e3 : ((x : Int) != 0) = true := by simp; omega
      clear a0 hx
      subst h
      go_wp2_with fail
      go_meet
      case rel => exact ⟨rfl, Chg.refl _ _⟩
  case rest =>
    obtain ⟨rfl, k2⟩ := hcut
    obtain ⟨w2, rfl⟩ : ∃ z, z = wc := ⟨wc, rfl⟩
    have BK2 := BK.chg k2 (by simp)
    have K2 := k1.trans1 k2
    clear BK k1 k2 hkb HYES HNO
    cases ow
    case false =>
      go_wp2_with fail
      go_ret3
      exact Or.inl ⟨rfl, rfl, K2⟩
    case true =>
      go_wp2_with (first
        | (refine copy_yl rfl (.tmp 39) (.tmp 40) 27 27 rfl 5 Try.underlying27 u8Inf nb 0 12 12 (some ⟨g, o, none⟩) n c rfl rfl 12 (fun _ => 0) 26 BN 12 f (by show 12 = min n 12; have := HNN.out; omega) (by decide) ⟨g, o, rfl, fun j hj => ((HB.out.1.chg (K2.trans1 k3) (by simp)).cell j (by have := HNN.out; omega))⟩ (by decide) ?_; intro w4 BN4 k4; rw [lay_all] at BN4)
        | (with_reducible refine alloc_w rfl 26 rfl (.agg (yC 12 (fun _ => 0))) zeroNc (yC 12 (fun _ => 0)) rfl ?_; intro nb w3 hnb BN k3))
      have HO : Hid ((¬ nb = kb) ∧ w.heap.size ≤ nb) := ⟨by have := BK2.lt; omega, by have := K2.size; omega⟩
      have K4 : Chg w w4 [] := (K2.trans1 k3).new k4 HO.out.2
      have BK4 := (BK2.chg k3 (by simp)).chg k4 (by have := HO.out; simp; omega)
      clear BK2 K2 BN k3 k4 hnb
      go_loopw [11, 10] (fun t11 t10 wr => ∃ m : Nat, m ≤ 8 ∧ t11 = .int .i64 ((3 + m : Nat) : Int) ∧ t10 = .int .u64 ((nle (fun j => f (4 + m + j)) (8 - m) : Nat) : Int) ∧ Chg w4 wr []) (fun t11 _ _ => (intOf t11 - 3).toNat)
      case atStart => exact ⟨8, by omega, rfl, rfl, Chg.refl _ _⟩
      case round =>
        obtain ⟨m, hm, rfl, rfl, c0⟩ := hrel
        by_cases hm0 : 0 < m
        · obtain ⟨r, rfl⟩ : ∃ r, m = r + 1 := ⟨m - 1, by omega⟩
          have cS := (HB.out.1.chg (K4.trans1 c0) (by simp)).cell (4 + r) (by omega)
          have hx8 := HFB.out (4 + r) (by omega)
          have hA : nle (fun j => f (4 + (r + 1) + j)) (8 - (r + 1)) < 256 ^ 7 := Nat.lt_of_lt_of_le (nle_lt _ (fun i hi => HFB.out _ (by omega))) (Nat.pow_le_pow_right (by decide) (by omega))
          have hst : nle (fun j => f (4 + r + j)) (8 - r) = f (4 + r) + nle (fun j => f (4 + (r + 1) + j)) (8 - (r + 1)) * 256 := by
            rw [show 8 - r = 1 + (8 - (r + 1)) by omega, nle_cut, Nat.pow_one]
            rw [nle_eq (b := fun j => f (4 + r + (1 + j))) (c := fun j => f (4 + (r + 1) + j)) (8 - (r + 1)) (fun j _ => by rw [show 4 + r + (1 + j) = 4 + (r + 1) + j by omega])]
            simp [nle]
          obtain ⟨A, hAe⟩ : ∃ A, nle (fun j => f (4 + (r + 1) + j)) (8 - (r + 1)) = A := ⟨_, rfl⟩
          rw [hAe] at hA hst ⊢
          obtain ⟨x, hx⟩ : ∃ x, f (4 + r) = x := ⟨_, rfl⟩
          rw [hx] at hst cS hx8
          obtain ⟨I, hI⟩ : ∃ I, 3 + (r + 1) = I := ⟨_, rfl⟩
          rw [show 4 + r = I by omega] at cS
          obtain ⟨B, hB⟩ : ∃ B, A * 256 = B := ⟨_, rfl⟩
          obtain ⟨C, hC⟩ : ∃ C, x + B = C := ⟨_, rfl⟩
          rw [hB, hC] at hst
          simp only [Nat.reducePow] at hA
          have s1 : IntKind.u64.wrap ((A : Int) * 256) = (B : Int) := by rw [IntKind.wrap_u64]; omega
          have s2 : (A : Int) * 256 = (B : Int) := by omega
          have s3 : (B : Int) % 18446744073709551616 = (B : Int) := by omega
          have s5 : IntKind.u64.wrap (B : Int) = (B : Int) := by rw [IntKind.wrap_u64]; omega
          have s4 : bits .or .u64 (B : Int) (x : Int) = (C : Int) := by
            rw [u64_or_nat B x (by omega) (by omega), nat_join 8 B x (by omega) (by simpa using hx8), ← hC, Nat.add_comm]
          have HST : Hid (nle (fun j => f (4 + r + j)) (8 - r) = C) := hst
          have HI : Hid (3 + (r + 1) = I ∧ r + 1 ≤ 8) := ⟨hI, hm⟩
          have j1 : (4 : Int) ≤ (I : Int) := by omega
          have j2 : (I : Int) < (n : Int) := by have := HNN.out; omega
          have j3 : IntKind.i64.wrap ((I : Int) - 1) = (I : Int) - 1 := by rw [IntKind.wrap_i64]; omega
          have j4 : (0 : Int) ≤ (I : Int) := by omega
          rw [hI]
          clear hst hAe hx hI hB hC hm hm0 hA
          go_wp2_with fail
          exact ⟨⟨r, by have := HI.out; omega, congrArg (Value.int .i64) (by have := HI.out; omega), by rw [HST.out], c0⟩, by simp [intOf]; have := HI.out; omega⟩
        · obtain rfl : m = 0 := by omega
          have HA : Hid (nle (fun j => f (4 + 0 + j)) (8 - 0) = nm) := by show nle (fun j => f (4 + 0 + j)) (8 - 0) = nm; rw [HNM.out]
          rw [HA.out]
          have BK5 := BK4.chg c0 (by simp)
          have BN5 := BN4.chg c0 (by simp)
          have K5 := K4.trans1 c0
          have j1 : ¬ (4 : Int) ≤ ((3 + 0 : Nat) : Int) := by omega
          clear hm hm0 BK4 BN4 K4 c0
          go_wp2_with fail
          refine lt_begin (fun w' => Blk w' kb (yC 32 k) 23 ∧ Blk w' nb (yC 12 f) 26) (fun _ => false) (by kernel_rfl) ?_
          have hHeld := And.intro BK5.drew BN5.drew
          replace K5 := K5.drew
          obtain ⟨z6, hz⟩ : ∃ z, z = wr.drew := ⟨_, rfl⟩
          rw [← hz] at hHeld K5 ⊢
          clear hz BK5 BN5
          refine lt_read (v := (.agg (yC 32 k))) 0 (some 55) rfl (by kernel_rfl) (by kernel_rfl) (by kernel_rfl) (by kernel_rfl) (fun _ _ _ h => h) rfl rfl (fun w hSw => ?_) hHeld ?_
          · skip; exact (exec_load_b w 23 (.tmp 3) rfl kb rfl hSw.1 Try.underlying23 rfl (by rw [yC_size]; exact keyInfo))
          try simp only [Act.put, List.setIfInBounds_toArray, List.set_cons_zero, List.set_cons_succ]
          refine lt_read (v := (.agg (yC 12 f))) 1 (some 56) rfl (by kernel_rfl) (by kernel_rfl) (by kernel_rfl) (by kernel_rfl) (fun _ _ _ h => h) rfl rfl (fun w hSw => ?_) hHeld ?_
          · skip; exact (exec_load_b w 26 (.tmp 9) rfl nb rfl hSw.2 Try.underlying26 rfl (by rw [yC_size]; exact nonInfo))
          try simp only [Act.put, List.setIfInBounds_toArray, List.set_cons_zero, List.set_cons_succ]
          refine lt_val (v := ?_) 2 (some 57) rfl (by kernel_rfl) (by kernel_rfl) (by kernel_rfl) (fun _ _ _ h => h) rfl rfl (fun w => ?_) ?_
          rotate_left
          · (go_simp; try with_reducible rfl)
          try simp only [Act.put, List.setIfInBounds_toArray, List.set_cons_zero, List.set_cons_succ]
          refine lt_val (v := ?_) 3 (some 58) rfl (by kernel_rfl) (by kernel_rfl) (by kernel_rfl) (fun _ _ _ h => h) rfl rfl (fun w => ?_) ?_
          rotate_left
          · (go_simp; try with_reducible rfl)
          try simp only [Act.put, List.setIfInBounds_toArray, List.set_cons_zero, List.set_cons_succ]
          refine lt_val (v := (.slice (some ⟨g, o + 12, none⟩) (N + 16) (c - 12))) 4 (some 59) rfl (by kernel_rfl) (by kernel_rfl) (by kernel_rfl) (fun _ _ _ h => h) rfl rfl (fun w => ?_) ?_
          · (go_simp; try with_reducible rfl)
          try simp only [Act.put, List.setIfInBounds_toArray, List.set_cons_zero, List.set_cons_succ]
          refine lt_one 5 rfl (by kernel_rfl) rfl (fun K hK => ?_)
          go_simp
          refine (HOP.out z6 z6.heap.size (.slice (some ⟨g, o + 12, none⟩) (N + 16) (c - 12)) (HS1.out.2.kept K5) (HS1.out.1.kept K5) rfl).mono ?_
          intro e w7 hOR
          obtain ⟨sv, ev, rfl, k7, hor⟩ := hOR.parts
          go_wp2_with fail
          refine hK.out _ _ (fun _ h => ⟨h.1.chg k7 (by simp), h.2.chg k7 (by simp)⟩) ?_
          clear hK K
          try simp only [Act.put, List.setIfInBounds_toArray, List.set_cons_zero, List.set_cons_succ]
          refine lt_val (v := ?_) 6 (some 54) rfl (by kernel_rfl) (by kernel_rfl) (by kernel_rfl) (fun _ _ _ h => h) rfl rfl (fun w => ?_) ?_
          rotate_left
          · (go_simp; try with_reducible rfl)
          try simp only [Act.put, List.setIfInBounds_toArray, List.set_cons_zero, List.set_cons_succ]
          refine lt_val (v := ?_) 7 (some 61) rfl (by kernel_rfl) (by kernel_rfl) (by kernel_rfl) (fun _ _ _ h => h) rfl rfl (fun w => ?_) ?_
          rotate_left
          · (go_simp; try with_reducible rfl)
          try simp only [Act.put, List.setIfInBounds_toArray, List.set_cons_zero, List.set_cons_succ]
          refine lt_val (v := ?_) 8 (some 62) rfl (by kernel_rfl) (by kernel_rfl) (by kernel_rfl) (fun _ _ _ h => h) rfl rfl (fun w => ?_) ?_
          rotate_left
          · (go_simp; try with_reducible rfl)
          try simp only [Act.put, List.setIfInBounds_toArray, List.set_cons_zero, List.set_cons_succ]
          refine lt_val (v := ?_) 9 (some 12) rfl (by kernel_rfl) (by kernel_rfl) (by kernel_rfl) (fun _ _ _ h => h) rfl rfl (fun w => ?_) ?_
          rotate_left
          · (go_simp; try with_reducible rfl)
          try simp only [Act.put, List.setIfInBounds_toArray, List.set_cons_zero, List.set_cons_succ]
          refine lt_val (v := ?_) 10 (some 13) rfl (by kernel_rfl) (by kernel_rfl) (by kernel_rfl) (fun _ _ _ h => h) rfl rfl (fun w => ?_) ?_
          rotate_left
          · (go_simp; try with_reducible rfl)
          try simp only [Act.put, List.setIfInBounds_toArray, List.set_cons_zero, List.set_cons_succ]
          refine lt_done (by kernel_rfl) ?_ _
          have K7 := K5.trans1 k7
          have HB7 : Hid (b0 ≤ z6.heap.size) := by have := K5.size; have := HB0.out; show b0 ≤ z6.heap.size; omega
          clear hHeld K5 k7 hOR
          rcases hor with ⟨rfl, rfl, O7⟩ | ⟨rfl, rfl, rfl⟩
          · go_wp2_with fail
            go_ret3
            exact Or.inr (Or.inr ⟨rfl, rfl, sv, rfl, O7.base HB7.out, K7⟩)
          · go_wp2_with fail
            go_ret3
            exact Or.inr (Or.inl ⟨rfl, rfl, rfl, K7⟩)
end Go.Proofs.Ytachilkhbfpahaa
