/- seal: Mac. -/
import Derived.Test.YtnopkojpgemldaaSeY
set_option linter.unusedVariables false
set_option linter.unusedSimpArgs false
set_option linter.unnecessarySimpa false
namespace Go.Proofs.Ytnopkojpgemldaa
open Go.RowKit

/-- Poly1305's sum of n bytes. -/
def mcA (R n : Nat) (f : Nat → Nat) : Nat :=
  if n % 16 = 0 then tks R n f 0 (n / 16) else tk (tks R (n / 16 * 16) f 0 (n / 16)) R (nle (fun i => f (n / 16 * 16 + i)) (n % 16) + 256 ^ (n % 16))
def macB (k : Nat → Nat) (n : Nat) (f : Nat → Nat) : Nat → Nat := tgB (mcA (rK k) n f) (fun i => k (16 + i))
theorem macB_lt (k : Nat → Nat) (n : Nat) (f : Nat → Nat) (i : Nat) : macB k n f i < 256 := tgB_lt _ _ _
set_option maxHeartbeats 8000000 in
set_option maxRecDepth 100000 in
theorem Mac_s (k : Nat → Nat) (hk : ∀ i, i < 32 → k i < 256) (v : Value) (n : Nat) (f : Nat → Nat) (w : World) (hv : Sz w v n f) :
    Calls Try.prog 17 #[.agg (yC 32 k), v] w fun e w' => e = .returned (.agg (yC 16 (macB k n f))) ∧ Chg w w' [] := by
  have HK : Hid (∀ i, i < 32 → k i < 256) := hk
  have HV : Hid (Sz w v n f ∧ n ≤ 9223372036854775807) := ⟨hv, hv.ln⟩
  have HRK : Hid (rK k < 1361129467683753853853498429727072845824) := rK_lt (fun i _ => hk i (by omega))
  have HT : Hid (macB k n f = tgB (mcA (rK k) n f) (fun i => k (16 + i))) := rfl
  obtain ⟨T, hT⟩ : ∃ T, macB k n f = T := ⟨_, rfl⟩
  rw [hT] at HT ⊢
  obtain ⟨p, c, e0, h1, h2, h3⟩ := hv
  subst e0
  obtain ⟨W, hW⟩ : ∃ W, n / 16 * 16 = W := ⟨_, rfl⟩
  obtain ⟨q, hq⟩ : ∃ q, n / 16 = q := ⟨_, rfl⟩
  have HW : Hid ((W = q * 16 ∧ W ≤ n ∧ n - W = n % 16) ∧ n ≤ c ∧ c ≤ 9223372036854775807) := ⟨⟨by omega, by omega, by omega⟩, h1, h2⟩
  have d1 : Int.tdiv (n : Int) 16 = (q : Int) := by rw [Int.tdiv_eq_ediv_of_nonneg (by omega)]; omega
  have d2 : IntKind.i64.wrap ((q : Int) * 16) = (W : Int) := by rw [IntKind.wrap_i64]; omega
  have i1 : (W : Int) ≤ (n : Int) := by omega
  have i2 : (n : Int) ≤ (c : Int) := by omega
  have i3 : (W : Int) ≤ (c : Int) := by omega
  have d3 : IntKind.i64.wrap (q : Int) = (q : Int) := by rw [IntKind.wrap_i64]; omega
  have HS0 : Hid (Sz w (.slice p W c) W f) := ⟨p, c, rfl, by omega, h2, fun h0 => by
    obtain ⟨g, o, e, hb⟩ := h3 (by omega)
    exact ⟨g, o, e, hb.lt, fun i hi => hb.bd i (by omega), fun i hi => hb.cell i (by omega)⟩⟩
  have HS1 : Hid (∀ po cc, (0 < n - W → ∃ g o, p = some ⟨g, o, none⟩ ∧ po = some ⟨g, o + W, none⟩) → n - W ≤ cc → cc ≤ 9223372036854775807 → Sz w (.slice po (n - W) cc) (n - W) (fun i => f (W + i))) := fun po cc hp hc hc2 => ⟨po, cc, rfl, hc, hc2, fun h0 => by
    obtain ⟨g, o, e, e2⟩ := hp h0
    obtain ⟨g', o', e', hb⟩ := h3 (by omega)
    rw [e] at e'
    simp only [Option.some.injEq, Addr.mk.injEq] at e'
    obtain ⟨rfl, rfl, _⟩ := e'
    exact ⟨g, o + W, e2, hb.sub W (n - W) (by omega)⟩⟩
  have HMA : Hid ((n - W = 0 → mcA (rK k) n f = tks (rK k) W f 0 q) ∧ (0 < n - W → mcA (rK k) n f = tk (tks (rK k) W f 0 q) (rK k) (nle (fun i => f (W + i)) (n - W) + 256 ^ (n - W)))) := by
    refine ⟨fun h => ?_, fun h => ?_⟩
    · unfold mcA
      rw [if_pos (by omega), hq, show W = n by omega]
    · unfold mcA
      rw [if_neg (by omega), hW, hq, show n % 16 = n - W by omega]
  obtain ⟨R, hR⟩ : ∃ R, rK k = R := ⟨_, rfl⟩
  obtain ⟨M, hM⟩ : ∃ M, mcA (rK k) n f = M := ⟨_, rfl⟩
  rw [hM] at HMA HT
  rw [hR] at HMA HRK
  have HQ : Hid ((W + 15) / 16 = q) := by show (W + 15) / 16 = q; omega
  have HNT : Hid (∀ w', Calls Try.prog 33 #[.agg (yC 32 k)] w' fun e w'' => ∃ y, e = .returned (.pointer (some ⟨y, 0, none⟩)) ∧ w'.heap.size ≤ y ∧ Tg w'' y 0 R (fun i => k (16 + i)) ∧ Chg w' w'' []) := fun w' => by
    have q := newTagger_s k hk w'
    unfold NT at q
    rw [hR] at q
    exact q
  clear hk h1 h2 h3 hW hq hR hM hT
  go_enter Try.func17, Try.ntmps17
  go_wp2_with (first
    | (with_reducible refine load_b (BK.chg k2 (by simp)) 23 (.tmp 2) Try.underlying23 ?_ ?_ ?_ ?_ ?_ ?_
       · rfl
       · rfl
       · rfl
       · rfl
       · (rw [yC_size]; exact keyInfo))
    | (with_reducible refine alloc_w rfl 43 rfl (.agg (yC 16 (fun _ => 0))) zeroTag (yC 16 (fun _ => 0)) rfl ?_; intro rb w2 hrb BR k2)
    | (refine box_w rfl 23 _ rfl (yC 32 k) rfl ?_; intro kb w1 hkb BK k1))
  refine (HNT.out w2).mono ?_
  rintro e w3 ⟨y, rfl, hy, TG, k3⟩
  have K3 : Chg w w3 [] := (k1.trans1 k2).trans1 k3
  have BR3 := BR.chg k3 (by simp)
  have HY : Hid ((¬ rb = y ∧ w.heap.size ≤ y) ∧ w.heap.size ≤ rb) := ⟨⟨by have := BR.lt; omega, by have := (k1.trans1 k2).size; omega⟩, by have := k1.size; omega⟩
  clear BK BR k1 k2 k3 hkb hrb hy
  go_wp2_with fail
  refine (takeFilled_s y 0 R (fun i => k (16 + i)) HRK.out (.slice p W c) W f w3 TG (HS0.out.chg K3 (Oz.nil _)) (HS0.out.new [y] (by have := HY.out; simp; omega))).mono ?_
  rintro e w4 ⟨rfl, TG4, k4⟩
  rw [HQ.out] at TG4
  have K4 : Chg w w4 [] := K3.new k4 HY.out.1.2
  have BR4 := BR3.chg k4 (by have := HY.out; simp; omega)
  clear K3 BR3 k4 TG
  have HEND : Hid (∀ w5, Tg w5 y M R (fun i => k (16 + i)) → Chg w w5 [] → Blk w5 rb (yC 16 (fun _ => 0)) 43 → Calls Try.prog 36 #[.pointer (some ⟨y, 0, none⟩)] w5 fun e w6 => e = .returned (.agg (yC 16 T)) ∧ Chg w w6 [] ∧ Blk w6 rb (yC 16 (fun _ => 0)) 43) := fun w5 t5 K5 B5 => by
    rw [HT.out]
    refine (tag_s y M R (fun i => k (16 + i)) (fun i hi => HK.out _ (by omega)) w5 t5).mono ?_
    rintro e w6 ⟨rfl, k6⟩
    exact ⟨rfl, K5.trans1 k6, B5.chg k6 (by simp)⟩
  have hcs : (n - W = 0 ∧ c = W) ∨ (n - W = 0 ∧ ¬ c = W) ∨ (0 < n - W ∧ ¬ c = W) := by have := HW.out; omega
  rcases hcs with ⟨h0, hcw⟩ | ⟨h0, hcw⟩ | ⟨h0, hcw⟩
  · have TG5 := TG4
    rw [← HMA.out.1 h0] at TG5
    clear TG4
    go_wp2_with fail
    refine (HEND.out w4 TG5 K4 BR4).mono ?_
    rintro e w6 ⟨rfl, K6, BR6⟩
    go_wp2_with (refine store_w BR6 rfl 43 _ _ (yC 16 T) rfl rfl rfl (by rw [yC_size]; exact tagInfo) (by rw [yC_size, yC_size]) (yC_one 16 _) ?_; intro w7 BR7 k7)
    exact bodyPost_ret (results_cell_row Try.results17 _ _ rb 43 (yC 16 T) (0, 0) _ rfl BR7 Try.underlying43 rfl (by rw [yC_size]; exact tagInfo)) rfl ⟨rfl, K6.new k7 HY.out.2⟩
  · have TG5 := TG4
    rw [← HMA.out.1 h0] at TG5
    clear TG4
    go_wp2_with fail
    refine (HEND.out w4 TG5 K4 BR4).mono ?_
    rintro e w6 ⟨rfl, K6, BR6⟩
    go_wp2_with (refine store_w BR6 rfl 43 _ _ (yC 16 T) rfl rfl rfl (by rw [yC_size]; exact tagInfo) (by rw [yC_size, yC_size]) (yC_one 16 _) ?_; intro w7 BR7 k7)
    exact bodyPost_ret (results_cell_row Try.results17 _ _ rb 43 (yC 16 T) (0, 0) _ rfl BR7 Try.underlying43 rfl (by rw [yC_size]; exact tagInfo)) rfl ⟨rfl, K6.new k7 HY.out.2⟩
  · obtain ⟨g, o, rfl, _⟩ : ∃ g o, p = some ⟨g, o, none⟩ ∧ True := by
      obtain ⟨p', c', e, _, _, h3⟩ := HV.out.1
      simp only [Value.slice.injEq] at e
      obtain ⟨rfl, _, rfl⟩ := e
      obtain ⟨g, o, e, _⟩ := h3 (by omega)
      exact ⟨g, o, e, trivial⟩
    have HS := HS1.out (some ⟨g, o + W, none⟩) (c - W) (fun _ => ⟨g, o, rfl, rfl⟩) (by have := HW.out; omega) (by have := HW.out; omega)
    have HTK := HMA.out.2 h0
    have hl : n - W ≤ 16 := by have := HW.out; omega
    obtain ⟨m, hm⟩ : ∃ m, n - W = m := ⟨_, rfl⟩
    rw [hm] at HS HTK hl h0
    have HHS : Hid (Sz w (.slice (some ⟨g, o + W, none⟩) m (c - W)) m (fun i => f (W + i)) ∧ (M = tk (tks R W f 0 q) R (nle (fun i => f (W + i)) m + 256 ^ m)) ∧ m ≤ 16) := ⟨HS, HTK, hl⟩
    have hI : (0 : Int) < (m : Int) := by omega
    clear HS HTK hl h0
    go_wp2_with fail
    refine (take_s y (tks R W f 0 q) R (fun i => k (16 + i)) HRK.out (.slice (some ⟨g, o + W, none⟩) m (c - W)) m m (fun i => f (W + i)) (Nat.le_refl _) HHS.out.2.2 w4 TG4 (HHS.out.1.chg K4 (Oz.nil _))).mono ?_
    rw [← HHS.out.2.1]
    rintro e w5 ⟨rfl, TG5, k5⟩
    have K5 : Chg w w5 [] := K4.new k5 HY.out.1.2
    have BR5 := BR4.chg k5 (by have := HY.out; simp; omega)
    go_wp2_with fail
    refine (HEND.out w5 TG5 K5 BR5).mono ?_
    rintro e w6 ⟨rfl, K6, BR6⟩
    go_wp2_with (refine store_w BR6 rfl 43 _ _ (yC 16 T) rfl rfl rfl (by rw [yC_size]; exact tagInfo) (by rw [yC_size, yC_size]) (yC_one 16 _) ?_; intro w7 BR7 k7)
    exact bodyPost_ret (results_cell_row Try.results17 _ _ rb 43 (yC 16 T) (0, 0) _ rfl BR7 Try.underlying43 rfl (by rw [yC_size]; exact tagInfo)) rfl ⟨rfl, K6.new k7 HY.out.2⟩
end Go.Proofs.Ytnopkojpgemldaa
