/- rimeref12: Numbered, Box, Unbox. -/
import Derived.Test.YtachilkhbfpahaaSrSe
import Derived.Test.YtachilkhbfpahaaSeUb
import Derived.Test.YtachilkhbfpahaaSeBy
set_option linter.unusedVariables false
set_option linter.unusedSimpArgs false
set_option linter.unnecessarySimpa false
namespace Go.Proofs.Ytachilkhbfpahaa
open Go.RowKit

def nbI (n i : Nat) : Nat → Nat := fun j => if 4 ≤ j ∧ j < 4 + i then n / 256 ^ (j - 4) % 256 else 0
theorem nbI_up (n i : Nat) : up (nbI n i) (4 + i) (n / 256 ^ i % 256) = nbI n (i + 1) := by
  funext j
  unfold up nbI
  by_cases h : j = 4 + i
  · subst h; rw [if_pos rfl, if_pos (by omega), Nat.add_sub_cancel_left]
  · rw [if_neg h]
    by_cases h2 : 4 ≤ j ∧ j < 4 + i
    · rw [if_pos h2, if_pos (by omega)]
    · rw [if_neg h2, if_neg (by omega)]
theorem nbI_end (n : Nat) : nbI n 8 = ncB n := by
  funext j
  unfold nbI ncB pl
  rfl
set_option maxHeartbeats 8000000 in
set_option maxRecDepth 100000 in
theorem Numbered_r (n : Nat) (hn : n < 18446744073709551616) (w : World) : Calls Try.prog 64 #[.int .u64 (n : Int)] w fun e w' => e = .returned (.agg (yC 12 (ncB n))) ∧ Chg w w' [] := by
  go_enter Try.func64, Try.ntmps64
  go_wp2_with (first
    | (have _h := BR; with_reducible refine alloc_w rfl 26 rfl (.agg (yC 12 (fun _ => 0))) zeroNc (yC 12 (fun _ => 0)) rfl ?_; intro nb w2 hnb BN k2)
    | (with_reducible refine alloc_w rfl 26 rfl (.agg (yC 12 (fun _ => 0))) zeroNc (yC 12 (fun _ => 0)) rfl ?_; intro rb w1 hrb BR k1))
  have BR2 := BR.chg k2 (by simp)
  have HO : Hid (¬ nb = rb ∧ w.heap.size ≤ nb ∧ w.heap.size ≤ rb) := ⟨by have := BR.lt; omega, by have := k1.size; omega, hrb⟩
  have K2 : Chg w w2 [] := k1.trans1 k2
  clear BR k1 k2 hnb hrb
  replace BN := BN.to (yC_eq (g := nbI n 0) fun j _ => by unfold nbI; rw [if_neg (by omega)])
  go_loopw [4] (fun t4 wr => ∃ i : Nat, i ≤ 8 ∧ t4 = .int .i64 (i : Int) ∧ Blk wr nb (yC 12 (nbI n i)) 26 ∧ Chg w2 wr [nb]) (fun t4 _ => (8 - intOf t4).toNat)
  case atStart => exact ⟨0, by omega, rfl, BN, Chg.refl _ _⟩
  case round =>
    clear BN
    obtain ⟨i, hi, rfl, b0, c0⟩ := hrel
    by_cases h8 : i < 8
    · have hI : (i : Int) < 8 := by omega
      have e1 : IntKind.i64.wrap ((i : Int) + 1) = (i : Int) + 1 := by rw [IntKind.wrap_i64]; omega
      obtain ⟨p, hp⟩ : ∃ p, 4 + i = p := ⟨_, rfl⟩
      have e2 : IntKind.i64.wrap (4 + (i : Int)) = (p : Int) := by rw [IntKind.wrap_i64]; omega
      have e3 : 4 + (i : Int) = (p : Int) := by omega
      have e4 : IntKind.i64.wrap (p : Int) = (p : Int) := by rw [IntKind.wrap_i64]; omega
      have e5 : (p : Int) < 12 := by omega
      have HI : Hid (i < 8) := h8
      obtain ⟨x, hx⟩ : ∃ x, n / 256 ^ i % 256 = x := ⟨_, rfl⟩
      have hw : IntKind.u64.wrap (8 * ((i : Nat) : Int)) = 8 * ((i : Nat) : Int) := by rw [IntKind.wrap_u64]; omega
      have hwi : IntKind.i64.wrap (8 * ((i : Nat) : Int)) = 8 * ((i : Nat) : Int) := by rw [IntKind.wrap_i64]; omega
      have htn : (8 * ((i : Nat) : Int)).toNat = 8 * i := by omega
      have hmi : min (8 * i) 64 = 8 * i := by omega
      have hv : ((n : Nat) : Int) / 2 ^ (8 * i) % 256 = ((x : Nat) : Int) := by
        rw [← hx, show (256 : Nat) = 2 ^ 8 from rfl, ← Nat.pow_mul]
        simp
      have hwu : IntKind.u8.wrap (((n : Nat) : Int) / 2 ^ (8 * i)) = ((x : Nat) : Int) := by rw [IntKind.wrap_u8]; exact hv
      have hup := nbI_up n i
      rw [hx, hp] at hup
      have cx := (b0.cell p).trans (yC_get 12 _ p (by omega))
      have fx := b0.frozen p
      have b1 := (b0.setCell p (.int .u8 ((x : Nat) : Int))).to ((yC_set 12 _ p _).trans (congrArg (yC 12) hup))
      have c1 := c0.setIn (k := nb) (by simp) p (.int .u8 ((x : Nat) : Int))
      clear h8 hi hx hup hp b0 c0
      go_wp2_with fail
      exact ⟨⟨i + 1, by have := HI.out; omega, by go_num, b1, c1⟩, by simp [intOf]; have := HI.out; omega⟩
    · obtain rfl : i = 8 := by omega
      have hI : ¬ ((8 : Nat) : Int) < 8 := by omega
      rw [nbI_end] at b0
      have BR3 := BR2.chg c0 (by have := HO.out; simp; omega)
      have K3 := K2.new c0 HO.out.2.1
      clear h8 hi BR2 K2 c0
      go_wp2_with (first
        | (refine store_w BR3 rfl 26 _ _ (yC 12 (ncB n)) rfl rfl rfl (by rw [yC_size]; exact nonInfo) (by rw [yC_size, yC_size]) (yC_one 12 _) ?_; intro w4 BR4 k4)
        | (with_reducible refine load_b b0 26 (.tmp 3) Try.underlying26 ?_ ?_ ?_ ?_ ?_ ?_
           · rfl
           · rfl
           · rfl
           · rfl
           · (rw [yC_size]; exact nonInfo)))
      exact bodyPost_ret (results_cell_row Try.results64 _ _ rb 26 (yC 12 (ncB n)) (0, 0) _ rfl BR4 Try.underlying26 rfl (by rw [yC_size]; exact nonInfo)) rfl ⟨rfl, K3.new k4 HO.out.2.2⟩
theorem Box_rend (k : Nat → Nat) (v0 v1 : Value) (w : World) : Calls Try.prog 29 #[.agg (yC 32 k), .int .u64 18446744073709551615, v0, v1] w fun e w' => e = .returned (.tuple #[.slice none 0 0, .int .i64 122]) ∧ Chg w w' [] := by
  go_enter Try.func29, Try.ntmps29
  go_wp2_with (refine box_w rfl 23 _ rfl (yC 32 k) rfl ?_; intro kb w1 hkb BK k1)
  go_ret2
  exact ⟨rfl, k1⟩
set_option maxHeartbeats 16000000 in
set_option maxRecDepth 100000 in
theorem Box_r (k : Nat → Nat) (nx : Nat) (hk : ∀ i, i < 32 → k i < 256) (hnx : nx < 18446744073709551615) (v0 : Value) (n0 : Nat) (f0 : Nat → Nat) (v1 : Value) (n1 : Nat) (f1 : Nat → Nat) (w : World) (hv0 : Sz w v0 n0 f0) (hv1 : Sz w v1 n1 f1) (h0 : n0 ≤ 1099511627776) (h1 : n1 ≤ 274877906880) (b0 : Nat) (hb0 : w.heap.size = b0) :
    Calls Try.prog 29 #[.agg (yC 32 k), .int .u64 (nx : Int), v0, v1] w fun e w' => AnsO w b0 (n1 + 28) (boxB k nx n0 f0 n1 f1) e w' := by
  have HS : Hid (∀ w', Sz w' v0 n0 f0 → Sz w' v1 n1 f1 → Calls Try.prog 23 #[.agg (yC 32 k), .agg (yC 12 (ncB nx)), v0, v1] w' fun e w'' => CyQ w' (n1 + 16) (sealB k (ncB nx) n0 f0 n1 f1) e w'') := fun w' a b => Seal_r k (ncB nx) hk (fun i _ => ncB_lt nx i) v0 n0 f0 v1 n1 f1 w' a b h0 h1
  have HB : Hid (boxB k nx n0 f0 n1 f1 = cat (ncB nx) 12 (sealB k (ncB nx) n0 f0 n1 f1)) := rfl
  have HNL : Hid (∀ i, ncB nx i < 256) := fun i => ncB_lt nx i
  have HNB : Hid (∀ w', Calls Try.prog 64 #[.int .u64 (nx : Int)] w' fun e w'' => e = .returned (.agg (yC 12 (ncB nx))) ∧ Chg w' w'' []) := fun w' => Numbered_r nx (by omega) w'
  obtain ⟨Z, hZ⟩ : ∃ Z, sealB k (ncB nx) n0 f0 n1 f1 = Z := ⟨_, rfl⟩
  rw [hZ] at HS HB
  obtain ⟨M, hM⟩ : ∃ M, ncB nx = M := ⟨_, rfl⟩
  rw [hM] at HS HB HNL HNB
  obtain ⟨Y, hY⟩ : ∃ Y, boxB k nx n0 f0 n1 f1 = Y := ⟨_, rfl⟩
  rw [hY] at HB ⊢
  have HV : Hid ((Sz w v0 n0 f0 ∧ Sz w v1 n1 f1) ∧ n1 ≤ 274877906880) := ⟨⟨hv0, hv1⟩, h1⟩
  have HB0 : Hid (w.heap.size = b0) := hb0
  have hq : ((nx : Int) == 18446744073709551615) = false := by simp; omega
  have hq2 : ¬ (nx : Int) = 18446744073709551615 := by omega
  clear hk hZ hM hY hv0 hv1 h0 h1 hb0 hnx
  go_enter Try.func29, Try.ntmps29
  go_wp2_with (refine box_w rfl 23 _ rfl (yC 32 k) rfl ?_; intro kb w1 hkb BK k1)
  refine (HNB.out w1).mono ?_
  rintro e w2 ⟨rfl, k2⟩
  go_wp2_with (first
    | (refine append_zl rfl (.tmp 16) (.tmp 17) rfl b0 (.slice none 0 0) (.slice (some ⟨nb, 0, none⟩) 12 12) 0 12 M M rfl rfl (Own.nil _ _ M) (BN4.szn (fun i _ => HNL.out i) (by decide)) (by decide) (by have := HB0.out; have := k1.size; have := k2.size; have := k3.size; have := k4.size; omega) ?_; intro a1 w5 O5 k5; rw [Nat.zero_add, cat_zero] at O5; replace k5 : Chg w4 w5 [] := k5)
    | (with_reducible refine load_b (BN4.chg k5 (by simp)) 26 (.tmp 10) Try.underlying26 ?_ ?_ ?_ ?_ ?_ ?_
       · rfl
       · rfl
       · rfl
       · rfl
       · (rw [yC_size]; exact nonInfo))
    | (with_reducible refine load_b ((((BK.chg k2 (by simp)).chg k3 (by simp)).chg k4 (by have := (BK.chg k2 (by simp)).lt; simp; omega)).chg k5 (by simp)) 23 (.tmp 4) Try.underlying23 ?_ ?_ ?_ ?_ ?_ ?_
       · rfl
       · rfl
       · rfl
       · rfl
       · (rw [yC_size]; exact keyInfo))
    | (refine store_w BN rfl 26 _ _ (yC 12 M) rfl rfl rfl (by rw [yC_size]; exact nonInfo) (by rw [yC_size, yC_size]) (yC_one 12 _) ?_; intro w4 BN4 k4)
    | (with_reducible refine alloc_w rfl 26 rfl (.agg (yC 12 (fun _ => 0))) zeroNc (yC 12 (fun _ => 0)) rfl ?_; intro nb w3 hnb BN k3))
  have K5 : Chg w w5 [] := (((k1.trans1 k2).trans1 k3).new k4 (by have := (k1.trans1 k2).size; omega)).trans1 k5
  clear BK BN BN4 k1 k2 k3 k4 k5 hkb hnb
  refine (HS.out w5 (HV.out.1.1.kept K5) (HV.out.1.2.kept K5)).mono ?_
  rintro e w6 ⟨v6, rfl, O6, k6⟩
  have O5' := O5.chg k6 (by simp)
  go_wp2_with (refine append_zl rfl (.tmp 19) (.tmp 24) rfl b0 a1 v6 12 (n1 + 16) M Z rfl rfl O5' O6.sz (by have := HV.out; omega) (by have := HB0.out; have := K5.size; have := k6.size; omega) ?_; intro v7 w7 O7 k7)
  go_ret2
  refine ⟨v7, rfl, ?_, Cb.low (K5.trans1 k6) (O5'.cb k7) (by have := HB0.out; omega)⟩
  rw [HB.out, show n1 + 28 = 12 + (n1 + 16) by omega]
  exact O7
end Go.Proofs.Ytachilkhbfpahaa
