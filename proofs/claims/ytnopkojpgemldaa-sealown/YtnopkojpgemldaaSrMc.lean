/- rimeref12.Mac. -/
import Derived.Test.YtnopkojpgemldaaSrNb
import Derived.Test.YtnopkojpgemldaaSeK
set_option linter.unusedVariables false
set_option linter.unusedSimpArgs false
set_option linter.unnecessarySimpa false
namespace Go.Proofs.Ytnopkojpgemldaa
open Go.RowKit

def clP (k : Nat → Nat) (j : Nat) : Nat → Nat := fun x => if x % 4 = 3 ∧ x < 4 * j then k x % 16 else k x
def clQ (k : Nat → Nat) (j : Nat) : Nat → Nat := fun x => if x % 4 = 3 ∧ x < 16 then k x % 16 else if x % 4 = 0 ∧ 0 < x ∧ x ≤ 4 * j then k x / 4 * 4 else k x
theorem clP_at (k : Nat → Nat) (j : Nat) : clP k j (4 * j + 3) = k (4 * j + 3) := by unfold clP; rw [if_neg (by omega)]
theorem clP_up (k : Nat → Nat) (j : Nat) : up (clP k j) (4 * j + 3) (k (4 * j + 3) % 16) = clP k (j + 1) := by
  funext x
  unfold up clP
  by_cases h : x = 4 * j + 3
  · subst h; rw [if_pos rfl, if_pos (by omega)]
  · rw [if_neg h]
    by_cases h2 : x % 4 = 3 ∧ x < 4 * j
    · rw [if_pos h2, if_pos (by omega)]
    · rw [if_neg h2, if_neg (by omega)]
theorem clP_0 (k : Nat → Nat) : k = clP k 0 := by funext x; unfold clP; rw [if_neg (by omega)]
theorem clP_4 (k : Nat → Nat) : clP k 4 = clQ k 0 := by
  funext x
  unfold clP clQ
  by_cases h : x % 4 = 3 ∧ x < 16
  · rw [if_pos h, if_pos h]
  · rw [if_neg h, if_neg h, if_neg (by omega)]
theorem clQ_at (k : Nat → Nat) (j : Nat) : clQ k j (4 * j + 4) = k (4 * j + 4) := by unfold clQ; rw [if_neg (by omega), if_neg (by omega)]
theorem clQ_up (k : Nat → Nat) (j : Nat) : up (clQ k j) (4 * j + 4) (k (4 * j + 4) / 4 * 4) = clQ k (j + 1) := by
  funext x
  unfold up clQ
  by_cases h : x = 4 * j + 4
  · subst h; rw [if_pos rfl, if_neg (by omega), if_pos (by omega)]
  · rw [if_neg h]
    by_cases h1 : x % 4 = 3 ∧ x < 16
    · rw [if_pos h1, if_pos h1]
    · rw [if_neg h1, if_neg h1]
      by_cases h2 : x % 4 = 0 ∧ 0 < x ∧ x ≤ 4 * j
      · rw [if_pos h2, if_pos (by omega)]
      · rw [if_neg h2, if_neg (by omega)]
theorem clQ_cl (k : Nat → Nat) (x : Nat) (hx : x < 16) : clQ k 3 x = cl k x := by
  unfold clQ cl
  rw [if_neg (show ¬ 16 ≤ x by omega)]
  by_cases h1 : x % 4 = 3
  · rw [if_pos ⟨h1, hx⟩, if_pos h1]
  · rw [if_neg (by omega), if_neg h1]
    by_cases h2 : x % 4 = 0 ∧ 0 < x
    · rw [if_pos (by omega), if_pos h2]
    · rw [if_neg (by omega), if_neg h2]
theorem nle_clQ (k : Nat → Nat) : nle (clQ k 3) 16 = rK k := by
  unfold rK
  rw [nle_eq 16 (fun i hi => clQ_cl k i hi)]
  show _ = nle (cl k) 16 + cl k 16 * 256 ^ 16
  rw [cl_16, Nat.zero_mul, Nat.add_zero]
/-- Poly1305's sum behind q pieces of n bytes, the last one as short as it is. -/
def ms (R n : Nat) (f : Nat → Nat) : Nat → Nat
  | 0 => 0
  | q + 1 => tk (ms R n f q) R (nle (fun i => f (16 * q + i)) (Nat.min (n - 16 * q) 16) + 256 ^ (Nat.min (n - 16 * q) 16))
theorem ms_lt (R n : Nat) (f : Nat → Nat) : ∀ q, ms R n f q < PP
  | 0 => PP_pos
  | q + 1 => by rw [ms]; unfold tk; exact Nat.mod_lt _ PP_pos
theorem ms_tks (R n : Nat) (f : Nat → Nat) : ∀ q, q ≤ n / 16 → ms R n f q = tks R (n / 16 * 16) f 0 q
  | 0, _ => rfl
  | q + 1, h => by
    rw [ms, tks, ms_tks R n f q (by omega), show Nat.min (n - 16 * q) 16 = 16 by show min _ _ = _; omega, show Nat.min (n / 16 * 16 - 16 * q) 16 = 16 by show min _ _ = _; omega]
theorem ms_end (R n : Nat) (f : Nat → Nat) : ms R n f ((n + 15) / 16) = mcA R n f := by
  unfold mcA
  by_cases h : n % 16 = 0
  · rw [if_pos h, show (n + 15) / 16 = n / 16 by omega, ms_tks R n f _ (Nat.le_refl _), show n / 16 * 16 = n by omega]
  · rw [if_neg h, show (n + 15) / 16 = n / 16 + 1 by omega, ms, ms_tks R n f _ (Nat.le_refl _), show Nat.min (n - 16 * (n / 16)) 16 = n % 16 by (show min _ _ = _; omega), show 16 * (n / 16) = n / 16 * 16 by omega]
theorem nle_snoc1 (f : Nat → Nat) (m : Nat) : nle (cat f m (fun _ => 1)) (m + 1) = nle f m + 256 ^ m := by
  rw [nle_cat]; simp [nle]
theorem nle16_lt {s : Nat → Nat} (hs : ∀ i, i < 16 → s i < 256) : nle s 16 < 340282366920938463463374607431768211456 := Nat.lt_of_lt_of_eq (nle_lt 16 hs) (by decide)
theorem piece_lt {f : Nat → Nat} {m : Nat} (hm : m ≤ 16) (hf : ∀ i, i < m → f i < 256) : nle f m + 256 ^ m < 680564733841876926926749214863536422912 := by
  have h1 := nle_lt m hf
  have h2 : (256 : Nat) ^ m ≤ 256 ^ 16 := Nat.pow_le_pow_right (by decide) hm
  have h3 : (256 : Nat) ^ 16 = 340282366920938463463374607431768211456 := by decide
  omega
theorem dg_byte (n p t : Nat) (ht : t < 4) : ((dg n p : Nat) : Int) / 2 ^ (8 * t) % 256 = ((n / 256 ^ (4 * p + t) % 256 : Nat) : Int) := by
  rw [Nat.pow_add, Nat.pow_mul, ← Nat.div_div_eq_div_mul]
  unfold dg
  rw [show (256 ^ 4 : Nat) = 4294967296 from rfl]
  generalize n / 4294967296 ^ p = X at *
  have h4 : t = 0 ∨ t = 1 ∨ t = 2 ∨ t = 3 := by omega
  rcases h4 with rfl | rfl | rfl | rfl <;> simp <;> omega
/-- The first i bytes of S, then 0. -/
def sB (S i : Nat) : Nat → Nat := fun j => if j < i then S / 256 ^ j % 256 else 0
theorem sB_up (S i : Nat) : up (sB S i) i (S / 256 ^ i % 256) = sB S (i + 1) := by
  funext j
  unfold up sB
  by_cases h : j = i
  · subst h; rw [if_pos rfl, if_pos (by omega)]
  · rw [if_neg h]
    by_cases h2 : j < i
    · rw [if_pos h2, if_pos (by omega)]
    · rw [if_neg h2, if_neg (by omega)]
theorem sB_tg (A : Nat) (s : Nat → Nat) (i : Nat) (hi : i < 16) : sB (A + nle s 16) 16 i = tgB A s i := by
  unfold sB tgB tgN
  rw [if_pos hi]
  generalize A + nle s 16 = X
  obtain ⟨r, hr⟩ : ∃ r, 16 = i + (r + 1) := ⟨15 - i, by omega⟩
  rw [show (340282366920938463463374607431768211456 : Nat) = 256 ^ (i + (r + 1)) by rw [← hr], Nat.pow_add, Nat.mod_mul_right_div_self, Nat.pow_succ, Nat.mul_comm (256 ^ r), Nat.mod_mul_right_mod]
theorem zeroNum : (Try.prog.info? 101).bind (·.zero) = some (.agg z5u) := by kernel_rfl
theorem bsl_o {w : World} {o : Oper} {a : Act} {K : Act → World → Prop} {Q : Exit → Act → World → Prop} (x : Operand) (ho : o.op = .buildSlice 26 1 #[(0, x)]) (c : Nat) (hx : a.eval x = .int .u8 (c : Int))
    (h : ∀ g w', w.heap.size ≤ g → Blk w' g (yC 1 (fun _ => c)) 5 → Chg w w' [] → K (a.put o.dst (.slice (some ⟨g, 0, none⟩) 1 1)) w') : o.wp Try.prog a w K Q := by
  obtain ⟨i, hi, hz, h1, h2⟩ := u8Row
  refine wp_buildSlice 26 5 1 _ ho (yC 1 (fun _ => c)) i (.int .u8 0) Try.underlying26 hi hz (by rw [h1]; decide) (by rw [h1]; decide) (by rw [h1]; simp [hx]; kernel_rfl) (h _ _ (Nat.le_refl _) (Blk.new w _ _) ((Chg.refl w []).alloc _))
theorem Own.blk1 {w : World} {base : Nat} {v : Value} {n : Nat} {f : Nat → Nat} (h : Own w base v n f) (h0 : 0 < n) : ∃ g c, v = .slice (some ⟨g, 0, none⟩) n c ∧ Bs w g 0 n f ∧ base ≤ g := by
  obtain ⟨p, c, e, h1, h2, h3⟩ := h.sz
  obtain ⟨g, o, rfl, hb⟩ := h3 h0
  rcases h.1.2 with ⟨_, hn⟩ | ⟨g', cap, cur, e', hg, _⟩
  · omega
  · rw [e'] at e
    simp only [Value.slice.injEq, Option.some.injEq, Addr.mk.injEq] at e
    obtain ⟨⟨rfl, rfl, _⟩, _⟩ := e
    exact ⟨_, _, e', hb, hg⟩
theorem dC_zero5 : z5u = dC 0 := z5u_dC
set_option maxHeartbeats 16000000 in
set_option maxRecDepth 100000 in
theorem Mac_r (k : Nat → Nat) (hk : ∀ i, i < 32 → k i < 256) (v : Value) (n : Nat) (f : Nat → Nat) (w : World) (hv : Sz w v n f) (hn : n ≤ 140737488355328) :
    Calls Try.prog 25 #[.agg (yC 32 k), v] w fun e w' => e = .returned (.agg (yC 16 (macB k n f))) ∧ Chg w w' [] := by
  have HK : Hid (∀ i, i < 32 → k i < 256) := hk
  have HN : Hid (n ≤ 140737488355328) := hn
  have HQ : Hid (∀ i, i < 32 → clQ k 3 i < 256) := fun i hi => by
    have q := hk i hi
    unfold clQ
    split
    · exact Nat.lt_of_le_of_lt (Nat.mod_le _ _) q
    · split
      · omega
      · exact q
  have HRK : Hid (rK k < 1361129467683753853853498429727072845824) := rK_lt (fun i _ => hk i (by omega))
  have HS : Hid (∀ i, i < 16 → k (16 + i) < 256) := fun i hi => hk _ (by omega)
  have HT : Hid (∀ i, i < 16 → sB (ms (rK k) n f ((n + 15) / 16) + nle (fun i => k (16 + i)) 16) 16 i = macB k n f i) := fun i hi => by
    unfold macB
    rw [← ms_end]
    exact sB_tg _ _ i hi
  have HRN : Hid (nle (clQ k 3) 16 = rK k) := nle_clQ k
  obtain ⟨R, hR⟩ : ∃ R, rK k = R := ⟨_, rfl⟩
  rw [hR] at HRK HT HRN
  obtain ⟨M, hM⟩ : ∃ M, macB k n f = M := ⟨_, rfl⟩
  rw [hM] at HT ⊢
  obtain ⟨p, c, rfl, h1, h2, h3⟩ := hv
  have HV : Hid ((n ≤ c ∧ c ≤ 9223372036854775807) ∧ (0 < n → ∃ g o, p = some ⟨g, o, none⟩ ∧ Bs w g o n f)) := ⟨⟨h1, h2⟩, h3⟩
  clear hk hn h1 h2 h3 hR hM
  go_enter Try.func25, Try.ntmps25
  go_wp2_with (first
    | (refine store_w BH rfl 23 _ _ (yC 32 k) rfl rfl rfl (by rw [yC_size]; exact keyInfo) (by rw [yC_size, yC_size]) (yC_one 32 _) ?_; intro w4 BH4 k4)
    | (with_reducible refine alloc_w rfl 23 rfl (.agg (yC 32 z0)) zeroKey (yC 32 z0) rfl ?_; intro hb w3 hhb BH k3)
    | (with_reducible refine load_b (BK.chg k2 (by simp)) 23 (.tmp 2) Try.underlying23 ?_ ?_ ?_ ?_ ?_ ?_
       · rfl
       · rfl
       · rfl
       · rfl
       · (rw [yC_size]; exact keyInfo))
    | (with_reducible refine alloc_w rfl 43 rfl (.agg (yC 16 (fun _ => 0))) zeroTag (yC 16 (fun _ => 0)) rfl ?_; intro rb w2 hrb BR k2)
    | (refine box_w rfl 23 _ rfl (yC 32 k) rfl ?_; intro kb w1 hkb BK k1))
  have HO : Hid ((¬ hb = kb ∧ ¬ hb = rb) ∧ (w.heap.size ≤ hb ∧ w.heap.size ≤ kb ∧ w.heap.size ≤ rb ∧ ¬ rb = kb)) := by
    have a1 := BK.lt
    have a2 := BR.lt
    have a3 := k1.size
    have a4 := k2.size
    exact ⟨⟨by omega, by omega⟩, by omega, by omega, by omega, by omega⟩
  have K4 : Chg w w4 [] := ((k1.trans1 k2).trans1 k3).new k4 HO.out.2.1
  have BK4 := ((BK.chg k2 (by simp)).chg k3 (by simp)).chg k4 (by have := HO.out; simp; omega)
  have BR4 := (BR.chg k3 (by simp)).chg k4 (by have := HO.out; simp; omega)
  clear BK BR BH k1 k2 k3 k4 hkb hrb hhb
  rw [clP_0 k] at BH4
  go_loopw [6] (fun t6 wr => ∃ j : Nat, j ≤ 4 ∧ t6 = .int .i64 ((4 * j + 3 : Nat) : Int) ∧ Blk wr hb (yC 32 (clP k j)) 23 ∧ Chg w4 wr [hb]) (fun t6 _ => (19 - intOf t6).toNat)
  case atStart => exact ⟨0, by omega, rfl, by rw [← clP_0] at BH4 ⊢; exact BH4, Chg.refl _ _⟩
  case round =>
    clear BH4
    obtain ⟨j, hj, rfl, b0, c0⟩ := hrel
    by_cases h4 : j < 4
    · have ha := and15 (k (4 * j + 3)) (HK.out _ (by omega))
      have cx := (b0.cell (4 * j + 3)).trans (yC_get 32 _ (4 * j + 3) (by omega))
      rw [clP_at] at cx
      have fx := b0.frozen (4 * j + 3)
      have b2 := (b0.setCell (4 * j + 3) (.int .u8 ((k (4 * j + 3) % 16 : Nat) : Int))).to ((yC_set 32 _ (4 * j + 3) _).trans (congrArg (yC 32) (clP_up k j)))
      have c2 := c0.setIn (k := hb) (by simp) (4 * j + 3) (.int .u8 ((k (4 * j + 3) % 16 : Nat) : Int))
      obtain ⟨i, hi⟩ : ∃ i, 4 * j + 3 = i := ⟨_, rfl⟩
      rw [hi] at ha cx fx b2 c2 ⊢
      have hI : (i : Int) < 16 := by omega
      have hI2 : (i : Int) < 32 := by omega
      have e1 : IntKind.i64.wrap ((i : Int) + 4) = (i : Int) + 4 := by rw [IntKind.wrap_i64]; omega
      obtain ⟨x, hx⟩ : ∃ x, k i % 16 = x := ⟨_, rfl⟩
      rw [hx] at ha b2 c2
      have HI : Hid (4 * j + 3 = i ∧ j < 4) := ⟨hi, h4⟩
      clear hi hx h4 hj
      go_wp2_with fail
      exact ⟨⟨j + 1, by have := HI.out; omega, congrArg (Value.int .i64) (by have := HI.out; omega), b2, c2⟩, by simp [intOf]; have := HI.out; omega⟩
    · obtain rfl : 4 = j := by omega
      have hI : ¬ ((4 * 4 + 3 : Nat) : Int) < 16 := by omega
      have K5 : Chg w wr [] := K4.new c0 HO.out.2.1
      have BK5 := BK4.chg c0 (by have := HO.out; simp; omega)
      have BR5 := BR4.chg c0 (by have := HO.out; simp; omega)
      rw [clP_4] at b0
      obtain ⟨w5, rfl⟩ : ∃ z, z = wr := ⟨wr, rfl⟩
      clear K4 BK4 BR4 c0 h4 hj
      go_wp2_with fail
      clear hI
      go_loopw [7] (fun t7 wr => ∃ j : Nat, j ≤ 3 ∧ t7 = .int .i64 ((4 * j + 4 : Nat) : Int) ∧ Blk wr hb (yC 32 (clQ k j)) 23 ∧ Chg w5 wr [hb]) (fun t7 _ => (19 - intOf t7).toNat)
      case atStart => exact ⟨0, by omega, rfl, b0, Chg.refl _ _⟩
      case round =>
        clear b0
        obtain ⟨j, hj, rfl, b0, c0⟩ := hrel
        by_cases h3 : j < 3
        · have ha := and252 (k (4 * j + 4)) (HK.out _ (by omega))
          have cx := (b0.cell (4 * j + 4)).trans (yC_get 32 _ (4 * j + 4) (by omega))
          rw [clQ_at] at cx
          have fx := b0.frozen (4 * j + 4)
          have b2 := (b0.setCell (4 * j + 4) (.int .u8 ((k (4 * j + 4) / 4 * 4 : Nat) : Int))).to ((yC_set 32 _ (4 * j + 4) _).trans (congrArg (yC 32) (clQ_up k j)))
          have c2 := c0.setIn (k := hb) (by simp) (4 * j + 4) (.int .u8 ((k (4 * j + 4) / 4 * 4 : Nat) : Int))
          obtain ⟨i, hi⟩ : ∃ i, 4 * j + 4 = i := ⟨_, rfl⟩
          rw [hi] at ha cx fx b2 c2 ⊢
          have hI : (i : Int) < 16 := by omega
          have hI2 : (i : Int) < 32 := by omega
          have e1 : IntKind.i64.wrap ((i : Int) + 4) = (i : Int) + 4 := by rw [IntKind.wrap_i64]; omega
          obtain ⟨x, hx⟩ : ∃ x, k i / 4 * 4 = x := ⟨_, rfl⟩
          rw [hx] at ha b2 c2
          have HI : Hid (4 * j + 4 = i ∧ j < 3) := ⟨hi, h3⟩
          clear hi hx h3 hj
          go_wp2_with fail
          exact ⟨⟨j + 1, by have := HI.out; omega, congrArg (Value.int .i64) (by have := HI.out; omega), b2, c2⟩, by simp [intOf]; have := HI.out; omega⟩
        · obtain rfl : 3 = j := by omega
          have hI : ¬ ((4 * 3 + 4 : Nat) : Int) < 16 := by omega
          have K6 : Chg w wr [] := K5.new c0 HO.out.2.1
          have BK6 := BK5.chg c0 (by have := HO.out; simp; omega)
          have BR6 := BR5.chg c0 (by have := HO.out; simp; omega)
          obtain ⟨w6, rfl⟩ : ∃ z, z = wr := ⟨wr, rfl⟩
          clear K5 BK5 BR5 c0 h3 hj
          go_wp2_with fail
          clear hI
          refine (number_r hb 0 16 32 (clQ k 3) (by omega) w6 ⟨b0.lt, fun i hi => HQ.out i (by omega), fun i hi => by rw [b0.cell, Nat.zero_add, yC_get _ _ _ (by omega)]⟩).mono ?_
          rintro e w7 ⟨rfl, k7⟩
          rw [HRN.out]
          have BK7 := BK6.chg k7 (by simp)
          have BR7 := BR6.chg k7 (by simp)
          have K7 := K6.trans1 k7
          clear BK6 BR6 K6 b0 k7
          go_wp2_with (first
            | (refine store_w BA rfl 101 (.tmp 9) _ z5u rfl rfl rfl NumInfo rfl (by kernel_rfl) ?_; intro w11 BA11 k11)
            | (have _h := BR9; with_reducible refine alloc_w rfl 101 rfl (.agg z5u) zeroNum z5u rfl ?_; intro ab w10 hab BA k10)
            | (refine store_w BRr rfl 101 (.tmp 8) _ (dC R) rfl rfl rfl (by rw [dC_size]; exact NumInfo) (by rw [dC_size]; rfl) (dC_one _) ?_; intro w9 BR9 k9)
            | (with_reducible refine alloc_w rfl 101 rfl (.agg z5u) zeroNum z5u rfl ?_; intro rr w8 hrr BRr k8))
          have HP : Hid (((¬ ab = rr ∧ ¬ ab = kb ∧ ¬ ab = rb) ∧ w.heap.size ≤ ab) ∧ (¬ rr = kb ∧ ¬ rr = rb) ∧ w.heap.size ≤ rr) := by
            have a0 := K7.size
            have a1 := BK7.lt
            have a2 := BR7.lt
            have a3 := BR9.lt
            have a4 := k8.size
            have a5 := k9.size
            exact ⟨⟨⟨by omega, by omega, by omega⟩, by omega⟩, ⟨by omega, by omega⟩, by omega⟩
          have K11 : Chg w w11 [] := (((K7.trans1 k8).new k9 HP.out.2.2).trans1 k10).new k11 HP.out.1.2
          have BK11 := (((BK7.chg k8 (by simp)).chg k9 (by have := HP.out; simp; omega)).chg k10 (by simp)).chg k11 (by have := HP.out; simp; omega)
          have BR11 := (((BR7.chg k8 (by simp)).chg k9 (by have := HP.out; simp; omega)).chg k10 (by simp)).chg k11 (by have := HP.out; simp; omega)
          have BN11 := (BR9.chg k10 (by simp)).chg k11 (by have := HP.out; simp; omega)
          clear BK7 BR7 K7 BRr BR9 BA k8 k9 k10 k11 hrr hab
          rw [z5u_dC] at BA11
          go_loopw [10] (fun t10 wr => ∃ q : Nat, q ≤ (n + 15) / 16 ∧ t10 = .int .i64 ((16 * q : Nat) : Int) ∧ Blk wr ab (dC (ms R n f q)) 101 ∧ Chg w11 wr [ab]) (fun t10 _ => ((n : Int) + 16 - intOf t10).toNat)
          case atStart => exact ⟨0, by omega, rfl, BA11, Chg.refl _ _⟩
          case round =>
            clear BA11
            obtain ⟨q, hq, rfl, b0, c0⟩ := hrel
            have BK12 := BK11.chg c0 (by have := HP.out; simp; omega)
            have BR12 := BR11.chg c0 (by have := HP.out; simp; omega)
            have BN12 := BN11.chg c0 (by have := HP.out; simp; omega)
            have K12 : Chg w wr [] := K11.new c0 HP.out.1.2
            by_cases h0 : 16 * q < n
            · obtain ⟨⟨h1, h2⟩, h3⟩ := HV.out
              obtain ⟨g, o, rfl, hb0⟩ := h3 (by omega)
              obtain ⟨m, hm⟩ : ∃ m, Nat.min (n - 16 * q) 16 = m := ⟨_, rfl⟩
              have HMS : Hid (ms R n f (q + 1) = tk (ms R n f q) R (nle (fun i => f (16 * q + i)) m + 256 ^ m)) := by
                show ms R n f (q + 1) = _
                rw [ms, hm]
              obtain ⟨u, hu⟩ : ∃ u, 16 * q = u := ⟨_, rfl⟩
              rw [hu] at HMS hm h0 ⊢
              obtain ⟨E, hE⟩ : ∃ E, u + m = E := ⟨_, rfl⟩
              obtain ⟨U, hU⟩ : ∃ U, u + 16 = U := ⟨_, rfl⟩
              have HM : Hid ((E = Nat.min U n ∧ 16 * q = u ∧ u < n ∧ u + m = E ∧ E ≤ n) ∧ m ≤ 16 ∧ 0 < m ∧ q + 1 ≤ (n + 15) / 16 ∧ u + 16 = U) := by
                have e : m = min (n - u) 16 := hm.symm
                exact ⟨⟨by show E = min U n; omega, hu, h0, hE, by omega⟩, by omega, by omega, by omega, hU⟩
              have HBF : Hid (Bs w g o n f) := hb0
              have d1 : IntKind.i64.wrap ((u : Int) + 16) = (U : Int) := by have := HN.out; rw [IntKind.wrap_i64]; omega
              have d0 : IntKind.i64.wrap (U : Int) = (U : Int) := by have := HN.out; have := HM.out; rw [IntKind.wrap_i64]; omega
              have i0 : (u : Int) < (n : Int) := by omega
              have i1 : (u : Int) ≤ (E : Int) := by omega
              have i2 : (E : Int) ≤ (c : Int) := by have := HM.out; omega
              have i3 : ¬ c = u := by omega
              have i4 : E - u = m := by omega
              have HSZ : Hid (Sz wr (.slice (some ⟨g, o + u, none⟩) m (c - u)) m (fun i => f (u + i))) := by
                have hb := hb0.chg K12 (by simp)
                refine ⟨_, _, rfl, by have := HM.out; omega, by omega, fun _ => ⟨g, o + u, rfl, hb.sub u m (by have := HM.out; omega)⟩⟩
              have HFB : Hid (∀ i, i < m → f (u + i) < 256) := fun i hi => hb0.bd _ (by have := HM.out; omega)
              clear hm hu hE hU h0 hq h1 h2 h3 hb0 BK11 BR11 BN11 K11
              go_wp2_with (first
                | (refine append_zl rfl (.tmp 44) (.tmp 52) rfl wr.heap.size (.slice none 0 0) (.slice (some ⟨g, o + u, none⟩) m (c - u)) 0 m f (fun i => f (u + i)) rfl rfl (Own.nil _ _ f) HSZ.out (by have := HM.out; omega) (Nat.le_refl _) ?_; intro pv w13 OP k13; rw [Nat.zero_add, cat_zero] at OP; replace k13 : Chg wr w13 [] := k13)
                | (refine min_w rfl (.tmp 48) (.tmp 50) #[3, 3] rfl U n E rfl rfl HM.out.1.1 ?_))
              refine lt_begin (fun w' => Blk w' ab (dC (ms R n f q)) 101 ∧ Blk w' rr (dC R) 101) (fun i => i == 8) (by kernel_rfl) ?_
              have hHeld := And.intro (b0.chg k13 (by simp)).drew (BN12.chg k13 (by simp)).drew
              have OQ : Own w13.drew wr.heap.size pv m (fun i => f (u + i)) := OP.chg ((Chg.refl w13 []).drew) (by simp)
              have K13 : Chg wr w13.drew [] := k13.drew
              obtain ⟨z, hz⟩ : ∃ z, z = w13.drew := ⟨_, rfl⟩
              rw [← hz] at hHeld OQ K13 ⊢
              clear hz OP k13
              refine lt_read (v := (.agg (dC (ms R n f q)))) 0 (some 54) rfl (by kernel_rfl) (by kernel_rfl) (by kernel_rfl) (by kernel_rfl) (fun _ _ _ h => h) rfl rfl (fun w hSw => ?_) hHeld ?_
              · skip; exact (exec_load_b w 101 (.tmp 9) rfl ab rfl hSw.1 Try.underlying101 rfl (by rw [dC_size]; exact NumInfo))
              try simp only [Act.put, List.setIfInBounds_toArray, List.set_cons_zero, List.set_cons_succ]
              refine lt_val (v := ?_) 1 (some 55) rfl (by kernel_rfl) (by kernel_rfl) (by kernel_rfl) (fun _ _ _ h => h) rfl rfl (fun w => ?_) ?_
              rotate_left
              · (go_simp; try with_reducible rfl)
              try simp only [Act.put, List.setIfInBounds_toArray, List.set_cons_zero, List.set_cons_succ]
              refine lt_read (v := (.agg (dC R))) 6 (some 60) rfl (by kernel_rfl) (by kernel_rfl) (by kernel_rfl) (by kernel_rfl) (fun _ _ _ h => h) rfl rfl (fun w hSw => ?_) hHeld ?_
              · skip; exact (exec_load_b w 101 (.tmp 8) rfl rr rfl hSw.2 Try.underlying101 rfl (by rw [dC_size]; exact NumInfo))
              try simp only [Act.put, List.setIfInBounds_toArray, List.set_cons_zero, List.set_cons_succ]
              refine lt_one 2 rfl (by kernel_rfl) rfl (fun K hK => ?_)
              refine bsl_o (.const (.int .u8 1)) rfl 1 rfl ?_
              intro gx wA hgx BX kA
              change K (Act.put _ (some 56) _) _
              refine hK.out _ _ (fun _ h => ⟨h.1.chg kA (by simp), h.2.chg kA (by simp)⟩) ?_
              replace hHeld := And.intro (hHeld.1.chg kA (by simp)) (hHeld.2.chg kA (by simp))
              replace OQ := OQ.chg kA (by simp)
              have KA := K13.trans1 kA
              clear hK K
              try simp only [Act.put, List.setIfInBounds_toArray, List.set_cons_zero, List.set_cons_succ]
              refine lt_one 3 rfl (by kernel_rfl) rfl (fun K hK => ?_)
              refine append_zo (.tmp 55) (.tmp 56) rfl wr.heap.size pv (.slice (some ⟨gx, 0, none⟩) 1 1) m 1 (fun i => f (u + i)) (fun _ => 1) rfl rfl OQ (BX.szn (fun _ _ => (by decide : (1 : Nat) < 256)) (by decide)) (by have := HM.out; omega) (by have := KA.size; omega) ?_
              intro pw wB OW kB
              change K (Act.put _ (some 57) _) _
              have nA := OQ.nt hHeld.1 (by decide)
              have nR := OQ.nt hHeld.2 (by decide)
              refine hK.out _ _ (fun _ h => ⟨h.1.chg kB nA, h.2.chg kB nR⟩) ?_
              replace hHeld := And.intro (hHeld.1.chg kB nA) (hHeld.2.chg kB nR)
              have KB : Chg wr wB [] := KA.trans kB (fun i hi => Or.inr (OQ.ob_ge i hi).1)
              obtain ⟨g2, c2, rfl, hb2, _⟩ := OW.blk1 (by omega)
              clear hK K
              try simp only [Act.put, List.setIfInBounds_toArray, List.set_cons_zero, List.set_cons_succ]
              refine lt_one 4 rfl (by kernel_rfl) rfl (fun K hK => ?_)
              go_simp
              refine (number_r g2 0 (m + 1) c2 _ (by have := HM.out; omega) wB hb2).mono ?_
              rintro e wC ⟨rfl, kC⟩
              rw [nle_snoc1]
              go_wp2_with fail
              refine hK.out _ _ (fun _ h => ⟨h.1.chg kC (by simp), h.2.chg kC (by simp)⟩) ?_
              replace hHeld := And.intro (hHeld.1.chg kC (by simp)) (hHeld.2.chg kC (by simp))
              clear hK K
              try simp only [Act.put, List.setIfInBounds_toArray, List.set_cons_zero, List.set_cons_succ]
              refine lt_one 5 rfl (by kernel_rfl) rfl (fun K hK => ?_)
              go_simp
              refine (plus_r _ _ wC).mono ?_
              rintro e wD ⟨rfl, kD⟩
              go_wp2_with fail
              refine hK.out _ _ (fun _ h => ⟨h.1.chg kD (by simp), h.2.chg kD (by simp)⟩) ?_
              replace hHeld := And.intro (hHeld.1.chg kD (by simp)) (hHeld.2.chg kD (by simp))
              clear hK K
              try simp only [Act.put, List.setIfInBounds_toArray, List.set_cons_zero, List.set_cons_succ]
              refine lt_one 7 rfl (by kernel_rfl) rfl (fun K hK => ?_)
              go_simp
              refine (times_r (ms R n f q + (nle (fun i => f (u + i)) m + 256 ^ m)) R (by have h1 := ms_lt R n f q; have h2 := piece_lt HM.out.2.1 HFB.out; unfold PP at h1; omega) (by have := HRK.out; omega) wD).mono ?_
              rintro e wE ⟨rfl, kE⟩
              go_wp2_with fail
              refine hK.out _ _ (fun _ h => ⟨h.1.chg kE (by simp), h.2.chg kE (by simp)⟩) ?_
              replace hHeld := And.intro (hHeld.1.chg kE (by simp)) (hHeld.2.chg kE (by simp))
              clear hK K
              try simp only [Act.put, List.setIfInBounds_toArray, List.set_cons_zero, List.set_cons_succ]
              refine lt_one 8 rfl (by kernel_rfl) rfl (fun K hK => ?_)
              refine wp_store_w hHeld.1 101 (.tmp 9) (.tmp 61) (dC ((ms R n f q + (nle (fun i => f (u + i)) m + 256 ^ m)) * R % PP)) rfl rfl rfl (by rw [dC_size]; exact NumInfo) (by rw [dC_size, dC_size]) (dC_one _) ?_
              intro wF BF kF
              change K (Act.put _ none _) _
              refine hK.out _ _ (fun h => by simp at h) ?_
              clear hK K
              try simp only [Act.put, List.setIfInBounds_toArray, List.set_cons_zero, List.set_cons_succ]
              refine lt_done (by kernel_rfl) ?_ _
              have KF : Chg wr wF [ab] := ((((KB.trans1 kC).trans1 kD).trans1 kE).wide).trans1 kF
              clear hHeld K13 KA KB kA kB kC kD kE kF OQ OW hb2 BX hgx nA nR
              go_wp2_with fail
              refine ⟨⟨q + 1, by have := HM.out; omega, congrArg (Value.int .i64) (by have := HM.out; omega), BF.to ?_, c0.trans1 KF⟩, by simp [intOf]; have := HM.out; omega⟩
              rw [HMS.out]; rfl
            · obtain rfl : q = (n + 15) / 16 := by omega
              have hI : ¬ ((16 * ((n + 15) / 16) : Nat) : Int) < (n : Int) := by omega
              obtain ⟨A, hA⟩ : ∃ A, ms R n f ((n + 15) / 16) = A := ⟨_, rfl⟩
              obtain ⟨X, hX⟩ : ∃ X, 16 * ((n + 15) / 16) = X := ⟨_, rfl⟩
              rw [hA] at HT b0
              rw [hX] at hI ⊢
              clear hA hX h0 hq BK11 BR11 BN11 K11 BN12 c0
              go_wp2_with fail
              obtain ⟨s0, hs0⟩ : ∃ s0, nle (fun i => k (16 + i)) 16 = s0 := ⟨_, rfl⟩
              have HS0 : Hid (nle (fun i => k (16 + i)) 16 = s0) := hs0
              rw [hs0] at HT
              clear hs0
              refine lt_begin (fun w' => Blk w' ab (dC A) 101) (fun i => i == 4) (by kernel_rfl) ?_
              have hHeld := b0.drew
              replace BK12 := BK12.drew
              replace BR12 := BR12.drew
              replace K12 := K12.drew
              obtain ⟨z, hz⟩ : ∃ z, z = wr.drew := ⟨_, rfl⟩
              rw [← hz] at hHeld BK12 BR12 K12 ⊢
              clear hz b0
              refine lt_read (v := (.agg (dC A))) 0 (some 62) rfl (by kernel_rfl) (by kernel_rfl) (by kernel_rfl) (by kernel_rfl) (fun _ _ _ h => h) rfl rfl (fun w hSw => ?_) hHeld ?_
              · skip; exact (exec_load_b w 101 (.tmp 9) rfl ab rfl hSw Try.underlying101 rfl (by rw [dC_size]; exact NumInfo))
              try simp only [Act.put, List.setIfInBounds_toArray, List.set_cons_zero, List.set_cons_succ]
              refine lt_val (v := (.slice (some ⟨kb, 16, none⟩) 16 16)) 1 (some 63) rfl (by kernel_rfl) (by kernel_rfl) (by kernel_rfl) (fun _ _ _ h => h) rfl rfl (fun w => ?_) ?_
              · (go_simp; try with_reducible rfl)
              try simp only [Act.put, List.setIfInBounds_toArray, List.set_cons_zero, List.set_cons_succ]
              refine lt_one 2 rfl (by kernel_rfl) rfl (fun K hK => ?_)
              go_simp
              refine (number_r kb 16 16 16 (fun i => k (16 + i)) (by omega) z ⟨BK12.lt, fun i hi => HS.out i hi, fun i hi => by rw [BK12.cell, yC_get _ _ _ (by omega)]⟩).mono ?_
              rintro e wA ⟨rfl, kA⟩
              rw [HS0.out]
              go_wp2_with fail
              refine hK.out _ _ (fun _ h => h.chg kA (by simp)) ?_
              replace hHeld := hHeld.chg kA (by simp)
              clear hK K
              try simp only [Act.put, List.setIfInBounds_toArray, List.set_cons_zero, List.set_cons_succ]
              refine lt_one 3 rfl (by kernel_rfl) rfl (fun K hK => ?_)
              go_simp
              refine (plus_r A s0 wA).mono ?_
              rintro e wB ⟨rfl, kB⟩
              go_wp2_with fail
              refine hK.out _ _ (fun _ h => h.chg kB (by simp)) ?_
              replace hHeld := hHeld.chg kB (by simp)
              clear hK K
              try simp only [Act.put, List.setIfInBounds_toArray, List.set_cons_zero, List.set_cons_succ]
              refine lt_one 4 rfl (by kernel_rfl) rfl (fun K hK => ?_)
              refine wp_store_w hHeld 101 (.tmp 9) (.tmp 65) (dC (A + s0)) rfl rfl rfl (by rw [dC_size]; exact NumInfo) (by rw [dC_size, dC_size]) (dC_one _) ?_
              intro wC BC kC
              change K (Act.put _ none _) _
              refine hK.out _ _ (fun h => by simp at h) ?_
              clear hK K
              try simp only [Act.put, List.setIfInBounds_toArray, List.set_cons_zero, List.set_cons_succ]
              refine lt_done (by kernel_rfl) ?_ _
              have KC : Chg w wC [] := ((K12.trans1 kA).trans1 kB).new kC HP.out.1.2
              have BR13 := ((BR12.chg kA (by simp)).chg kB (by simp)).chg kC (by have := HP.out; simp; omega)
              clear hHeld kA kB kC BK12 BR12 K12
              obtain ⟨X2, hX2⟩ : ∃ X2, A + s0 = X2 := ⟨_, rfl⟩
              rw [hX2] at HT BC
              clear hX2
              go_wp2_with (with_reducible refine alloc_w rfl 43 rfl (.agg (yC 16 (fun _ => 0))) zeroTag (yC 16 (fun _ => 0)) rfl ?_; intro tb wD htb BT kD)
              have HTB : Hid ((¬ tb = ab ∧ ¬ tb = rb) ∧ w.heap.size ≤ tb) := ⟨⟨by have := BC.lt; omega, by have := BR13.lt; omega⟩, by have := KC.size; omega⟩
              have KD : Chg w wD [] := KC.trans1 kD
              have BC2 := BC.chg kD (by simp)
              have BR14 := BR13.chg kD (by simp)
              clear KC BC BR13 kD htb
              replace BT := BT.to (yC_eq (g := sB X2 0) fun j _ => by unfold sB; rw [if_neg (by omega)])
              go_loopw [13] (fun t wr => ∃ i : Nat, i ≤ 16 ∧ t = .int .i64 (i : Int) ∧ Blk wr tb (yC 16 (sB X2 i)) 43 ∧ Chg wD wr [tb]) (fun t _ => (16 - intOf t).toNat)
              case atStart => exact ⟨0, by omega, rfl, BT, Chg.refl _ _⟩
              case round =>
                clear BT
                obtain ⟨i, hi, rfl, b0, c0⟩ := hrel
                by_cases h16 : i < 16
                · have bC := BC2.chg c0 (by have := HTB.out; simp; omega)
                  obtain ⟨x, hx⟩ : ∃ x, X2 / 256 ^ i % 256 = x := ⟨_, rfl⟩
                  have hup := sB_up X2 i
                  rw [hx] at hup
                  obtain ⟨p, t, ht, hp, rfl⟩ : ∃ p t, t < 4 ∧ p < 5 ∧ i = 4 * p + t := ⟨i / 4, i % 4, by omega, by omega, by omega⟩
                  have hI : ((4 * p + t : Nat) : Int) < 16 := by omega
                  have hI0 : (0 : Int) ≤ ((4 * p + t : Nat) : Int) := by omega
                  have hdv : ((4 * p + t : Nat) : Int) / 4 = ((p : Nat) : Int) := by omega
                  have hmd : ((4 * p + t : Nat) : Int) % 4 = ((t : Nat) : Int) := by omega
                  have hpl : ((p : Nat) : Int) < 5 := by omega
                  have hw : IntKind.u64.wrap (8 * ((t : Nat) : Int)) = 8 * ((t : Nat) : Int) := by rw [IntKind.wrap_u64]; omega
                  have htn : (8 * ((t : Nat) : Int)).toNat = 8 * t := by omega
                  have hmi : min (8 * t) 32 = 8 * t := by omega
                  have cA := (bC.cell p).trans (uC_get 5 (dg X2) p hp)
                  have cB := (b0.cell (4 * p + t)).trans (yC_get 16 _ (4 * p + t) h16)
                  have fB := b0.frozen (4 * p + t)
                  have hv := dg_byte X2 p t ht
                  rw [hx] at hv
                  have b2 := (b0.setCell (4 * p + t) (.int .u8 ((x : Nat) : Int))).to ((yC_set 16 _ (4 * p + t) _).trans (congrArg (yC 16) hup))
                  have c2 := c0.setIn (k := tb) (by simp) (4 * p + t) (.int .u8 ((x : Nat) : Int))
                  have hdl := dg_lt X2 p
                  clear hup bC
                  generalize hii : 4 * p + t = i at *
                  clear hii hx
                  go_wp2_with fail
                  exact ⟨⟨i + 1, by omega, by go_num, b2, c2⟩, by simp [intOf]; omega⟩
                · obtain rfl : i = 16 := by omega
                  have BR15 := BR14.chg c0 (by have := HTB.out; simp; omega)
                  have K15 : Chg w wr [] := KD.new c0 HTB.out.2
                  have b1 := b0.to (yC_eq HT.out)
                  have hI : ¬ ((16 : Nat) : Int) < 16 := by omega
                  clear b0 HT BC2 BR14 KD c0
                  go_wp2_with (first
                    | (with_reducible refine load_b b1 43 (.tmp 12) Try.underlying43 ?_ ?_ ?_ ?_ ?_ ?_
                       · rfl
                       · rfl
                       · rfl
                       · rfl
                       · (rw [yC_size]; exact tagInfo))
                    | (refine store_w BR15 rfl 43 _ _ (yC 16 M) rfl rfl rfl (by rw [yC_size]; exact tagInfo) (by rw [yC_size, yC_size]) (yC_one 16 _) ?_; intro w16 BR16 k16))
                  exact bodyPost_ret (results_cell_row Try.results25 _ _ rb 43 (yC 16 M) (0, 0) _ rfl BR16 Try.underlying43 rfl (by rw [yC_size]; exact tagInfo)) rfl ⟨rfl, K15.new k16 HO.out.2.2.2.1⟩
end Go.Proofs.Ytnopkojpgemldaa
