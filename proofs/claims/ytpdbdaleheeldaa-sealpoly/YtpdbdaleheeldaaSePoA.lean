/- The law's own added: two numbers of 16 bytes. -/
import Derived.Test.YtpdbdaleheeldaaSePoM
import Derived.Test.YtpdbdaleheeldaaSeY
set_option linter.unusedVariables false
set_option linter.unusedSimpArgs false
set_option linter.unnecessarySimpa false
namespace Go.Proofs.Ytpdbdaleheeldaa
open Go.RowKit

/-- The carry ahead of byte i. -/
def cyB (t s : Nat → Nat) (i : Nat) : Nat := (nle t i + nle s i) / 256 ^ i
theorem cyB_le {t s : Nat → Nat} (i : Nat) (ht : ∀ j, j < i → t j < 256) (hs : ∀ j, j < i → s j < 256) : cyB t s i ≤ 1 := by
  unfold cyB
  have a := nle_lt i ht
  have b := nle_lt i hs
  have h : (nle t i + nle s i) / 256 ^ i < 2 := (Nat.div_lt_iff_lt_mul (Nat.pow_pos (by decide))).2 (by omega)
  omega
theorem cyB_sum (t s : Nat → Nat) (i : Nat) : cyB t s i + t i + s i = (nle t (i + 1) + nle s (i + 1)) / 256 ^ i := by
  unfold cyB
  rw [nle, nle, show nle t i + t i * 256 ^ i + (nle s i + s i * 256 ^ i) = nle t i + nle s i + (t i + s i) * 256 ^ i by rw [Nat.add_mul]; omega, Nat.add_mul_div_right _ _ (Nat.pow_pos (by decide))]
  omega
theorem cyB_next (t s : Nat → Nat) (i : Nat) : (cyB t s i + t i + s i) / 256 = cyB t s (i + 1) := by
  rw [cyB_sum]
  unfold cyB
  rw [Nat.div_div_eq_div_mul, ← Nat.pow_succ]
theorem cyB_byte (t s : Nat → Nat) (i : Nat) (hi : i < 16) : (cyB t s i + t i + s i) % 256 = adB t s i := by
  rw [cyB_sum]
  unfold adB
  have q (b : Nat → Nat) : ∃ M, nle b 16 = nle b (i + 1) + M * 256 ^ (i + 1) := by
    have q1 := nle_cut b (i + 1) (15 - i)
    rw [show i + 1 + (15 - i) = 16 by omega] at q1
    exact ⟨_, q1⟩
  obtain ⟨M, hM⟩ := q t
  obtain ⟨N, hN⟩ := q s
  rw [hM, hN]
  obtain ⟨X, hX⟩ : ∃ X, nle t (i + 1) + nle s (i + 1) = X := ⟨_, rfl⟩
  rw [show nle t (i + 1) + M * 256 ^ (i + 1) + (nle s (i + 1) + N * 256 ^ (i + 1)) = X + (M + N) * 256 ^ (i + 1) by rw [Nat.add_mul]; omega, hX]
  have e128 : (340282366920938463463374607431768211456 : Nat) = 256 ^ i * 256 ^ (16 - i) := by rw [← Nat.pow_add, show i + (16 - i) = 16 by omega]
  have hp : (256 : Nat) ^ (16 - i) = 256 * 256 ^ (15 - i) := by rw [Nat.mul_comm, ← Nat.pow_succ, show (15 - i).succ = 16 - i by omega]
  rw [e128, Nat.mod_mul_right_div_self, hp, Nat.mod_mul_right_mod, show (M + N) * 256 ^ (i + 1) = (M + N) * 256 * 256 ^ i by rw [Nat.pow_succ, Nat.mul_assoc, Nat.mul_comm 256], Nat.add_mul_div_right _ _ (Nat.pow_pos (by decide)), Nat.add_mul_mod_self_right]
def adI2 (t s : Nat → Nat) (i : Nat) : Nat → Nat := fun j => if j < i then adB t s j else t j
set_option maxHeartbeats 8000000 in
set_option maxRecDepth 100000 in
theorem added_s (t : Nat → Nat) (ht : ∀ i, i < 16 → t i < 256) (v : Value) (n : Nat) (f : Nat → Nat) (hn : 16 ≤ n) (w : World) (hv : Sz w v n f) :
    Calls Try.prog 18 #[.agg (yC 16 t), v] w fun e w' => e = .returned (.agg (yC 16 (adB t f))) ∧ Chg w w' [] := by
  obtain ⟨p, c, rfl, h1, h2, h3⟩ := hv
  obtain ⟨g, o, rfl, hb⟩ := h3 (by omega)
  have HB : Hid ((Bs w g o n f ∧ 16 ≤ n) ∧ ∀ i, i < 16 → t i < 256) := ⟨⟨hb, hn⟩, ht⟩
  clear h1 h2 h3 hb hn ht
  go_enter Try.func18, Try.ntmps18
  go_wp2_with (first
    | (with_reducible refine alloc_w rfl 43 rfl (.agg (yC 16 (fun _ => 0))) zeroTag (yC 16 (fun _ => 0)) rfl ?_; intro rb w2 hrb BR k2)
    | (refine box_w rfl 43 (.tmp 0) rfl (yC 16 t) rfl ?_; intro tb w1 htb BT k1))
  have BT2 := BT.chg k2 (by simp)
  have K2 : Chg w w2 [] := k1.trans1 k2
  have HO : Hid ((¬ tb = rb ∧ ¬ g = tb) ∧ w.heap.size ≤ tb ∧ w.heap.size ≤ rb) := ⟨⟨by have := BT.lt; omega, by have := HB.out.1.1.lt; omega⟩, htb, by have := k1.size; omega⟩
  clear k1 k2 BT htb hrb
  go_loopw [5, 6] (fun t5 t6 wr => ∃ i : Nat, i ≤ 16 ∧ t5 = .int .i64 (cyB t f i : Nat) ∧ t6 = .int .i64 (i : Int) ∧ Blk wr tb (yC 16 (adI2 t f i)) 43 ∧ Chg w2 wr [tb]) (fun t5 t6 _ => (16 - intOf t6).toNat)
  case atStart =>
    refine ⟨0, by omega, by rw [show cyB t f 0 = 0 by simp [cyB, nle]]; rfl, rfl, BT2.to (yC_eq fun j _ => by unfold adI2; rw [if_neg (by omega)]), Chg.refl _ _⟩
  case round =>
    clear BT2
    obtain ⟨i, hi, rfl, rfl, b0, c0⟩ := hrel
    by_cases h8 : i < 16
    · have hI : (i : Int) < 16 := by omega
      have hI2 : (i : Int) < (n : Int) := by have := HB.out; omega
      have e1 : IntKind.i64.wrap ((i : Int) + 1) = (i : Int) + 1 := by rw [IntKind.wrap_i64]; omega
      have cT := (b0.cell i).trans (yC_get 16 _ i h8)
      rw [show adI2 t f i i = t i by unfold adI2; rw [if_neg (by omega)]] at cT
      have C0 : Chg w wr [tb] := K2.wide.trans1 c0
      have cS := (HB.out.1.1.chg C0 (by have := HO.out; simp; omega)).cell i (by have := HB.out; omega)
      have uT := HB.out.2 i h8
      have uS := HB.out.1.1.bd i (by have := HB.out; omega)
      have uC := cyB_le (t := t) (s := f) i (fun j hj => HB.out.2 j (by omega)) (fun j hj => HB.out.1.1.bd j (by have := HB.out; omega))
      have hby := cyB_byte t f i h8
      have hnx := cyB_next t f i
      have hup : up (adI2 t f i) i (adB t f i) = adI2 t f (i + 1) := by
        funext j
        unfold up adI2
        by_cases hj : j = i
        · subst hj; rw [if_pos rfl, if_pos (by omega)]
        · rw [if_neg hj]
          by_cases hj2 : j < i
          · rw [if_pos hj2, if_pos (by omega)]
          · rw [if_neg hj2, if_neg (by omega)]
      obtain ⟨T, hT⟩ : ∃ z, t i = z := ⟨_, rfl⟩
      obtain ⟨F, hF⟩ : ∃ z, f i = z := ⟨_, rfl⟩
      obtain ⟨C, hC⟩ : ∃ z, cyB t f i = z := ⟨_, rfl⟩
      obtain ⟨C1, hC1⟩ : ∃ z, cyB t f (i + 1) = z := ⟨_, rfl⟩
      obtain ⟨D, hD⟩ : ∃ z, adB t f i = z := ⟨_, rfl⟩
      rw [hT] at cT uT hby hnx
      rw [hF] at cS uS hby hnx
      rw [hC] at uC hby hnx
      rw [hC1] at hnx
      rw [hD] at hby hup
      obtain ⟨X, hX⟩ : ∃ z, C + T = z := ⟨_, rfl⟩
      obtain ⟨Y, hY⟩ : ∃ z, X + F = z := ⟨_, rfl⟩
      have w1 : IntKind.i64.wrap (T : Int) = (T : Int) := by rw [IntKind.wrap_i64]; omega
      have w2' : IntKind.i64.wrap (F : Int) = (F : Int) := by rw [IntKind.wrap_i64]; omega
      have s1 : IntKind.i64.wrap ((C : Int) + (T : Int)) = (X : Int) := by rw [IntKind.wrap_i64]; omega
      have s2 : IntKind.i64.wrap ((X : Int) + (F : Int)) = (Y : Int) := by rw [IntKind.wrap_i64]; omega
      have s3 : IntKind.u8.wrap (Y : Int) = (D : Int) := by rw [IntKind.wrap_u8]; omega
      have s4 : (Y : Int) / 256 = (C1 : Int) := by omega
      have HC1 : Hid (C1 = cyB t f (i + 1) ∧ i < 16) := ⟨hC1.symm, h8⟩
      have HUP : Hid (yC 16 (up (adI2 t f i) i D) = yC 16 (adI2 t f (i + 1))) := congrArg (yC 16) hup
      rw [hC]
      clear uT uS uC hby hnx hup hT hF hC hC1 hD hX hY C0 h8 hi
      go_wp2_with fail
      go_quiet (fail)
      have fT := b0.frozen i
      go_wp2_with fail
      refine ⟨⟨i + 1, by have := HC1.out; omega, by rw [← HC1.out.1], by go_num, ((b0.drewN _).setCell i (.int .u8 (D : Nat))).to ((yC_set 16 _ i D).trans HUP.out), (c0.drewN _).setIn (k := tb) (by simp) i _⟩, by simp [intOf]; have := HC1.out; omega⟩
    · obtain rfl : 16 = i := by omega
      have hI : ¬ ((16 : Nat) : Int) < 16 := by omega
      have BT3 := b0.to (yC_eq fun j hj => show adI2 t f 16 j = adB t f j by unfold adI2; rw [if_pos hj])
      have BR3 := BR.chg c0 (by have := HO.out; simp; omega)
      have K3 : Chg w wr [] := K2.new c0 HO.out.2.1
      clear b0 BR K2 c0
      go_wp2_with (first
        | (refine store_w BR3 rfl 43 _ _ (yC 16 (adB t f)) rfl rfl rfl (by rw [yC_size]; exact tagInfo) (by rw [yC_size, yC_size]) (yC_one 16 _) ?_; intro w4 BR4 k4)
        | (with_reducible refine load_b BT3 43 (.tmp 2) Try.underlying43 ?_ ?_ ?_ ?_ ?_ ?_
           · rfl
           · rfl
           · rfl
           · rfl
           · (rw [yC_size]; exact tagInfo)))
      exact bodyPost_ret (results_cell_row Try.results18 _ _ rb 43 (yC 16 (adB t f)) (0, 0) _ rfl BR4 Try.underlying43 rfl (by rw [yC_size]; exact tagInfo)) rfl ⟨rfl, K3.new k4 HO.out.2.2⟩
end Go.Proofs.Ytpdbdaleheeldaa
