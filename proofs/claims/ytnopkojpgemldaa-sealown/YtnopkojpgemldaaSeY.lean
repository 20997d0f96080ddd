/- seal: tagOf. -/
import Derived.Test.YtnopkojpgemldaaSeX
set_option linter.unusedVariables false
set_option linter.unusedSimpArgs false
set_option linter.unnecessarySimpa false
namespace Go.Proofs.Ytnopkojpgemldaa
open Go.RowKit

/-- Two lengths in 16 bytes. -/
def ln (n0 n1 : Nat) : Nat → Nat := pl (pl (fun _ => 0) 0 n0) 8 n1
/-- The sum of what is open and what is masked. -/
def tagA (K : Nat → Nat) (n0 : Nat) (f0 : Nat → Nat) (n1 : Nat) (f1 : Nat → Nat) : Nat :=
  tks (rK K) 16 (ln n0 n1) (tks (rK K) n1 f1 (tks (rK K) n0 f0 0 ((n0 + 15) / 16)) ((n1 + 15) / 16)) 1
/-- The tag. -/
def tagT (k nn : Nat → Nat) (n0 : Nat) (f0 : Nat → Nat) (n1 : Nat) (f1 : Nat → Nat) : Nat → Nat :=
  tgB (tagA (bkB (st0 k 0 nn)) n0 f0 n1 f1) (fun i => bkB (st0 k 0 nn) (16 + i))
theorem tagT_lt (k nn : Nat → Nat) (n0 : Nat) (f0 : Nat → Nat) (n1 : Nat) (f1 : Nat → Nat) (i : Nat) : tagT k nn n0 f0 n1 f1 i < 256 := tgB_lt _ _ _
theorem pl_lt {f : Nat → Nat} {o v : Nat} (hf : ∀ i, f i < 256) (i : Nat) : pl f o v i < 256 := by
  unfold pl; split
  · exact Nat.mod_lt _ (by decide)
  · exact hf i
theorem ln_lt (n0 n1 i : Nat) : ln n0 n1 i < 256 := pl_lt (pl_lt (fun _ => by decide)) i
theorem zeroB16 : (Try.prog.info? 42).bind (·.zero) = some (.agg (yC 16 (fun _ => 0))) := by kernel_rfl
theorem Sz.ln {w : World} {v : Value} {n : Nat} {f : Nat → Nat} (h : Sz w v n f) : n ≤ 9223372036854775807 := by
  obtain ⟨p, c, rfl, h1, h2, h3⟩ := h; omega
theorem yL_eq {n : Nat} {f g : Nat → Nat} (h : ∀ i, i < n → f i = g i) : yL n f = yL n g := by
  unfold yL; apply List.map_congr_left; intro i hi; rw [h i (by simpa using hi)]
theorem Blk.rng {w : World} {g N : Nat} {b : Nat → Nat} {T : TypeId} (h : Blk w g (yC N b) T) (o m : Nat) (ho : o + m ≤ N) : w.rangeAt g o (yL m (fun i => b (o + i))) := fun j x hj => by
  obtain ⟨h1, rfl⟩ := yL_some _ _ _ _ hj
  rw [h.cell, yC_get _ _ _ (by omega)]
theorem Blk.sz {w : World} {g N : Nat} {b : Nat → Nat} {T : TypeId} (h : Blk w g (yC N b) T) (hb : ∀ i, i < N → b i < 256) (o m c : Nat) (ho : o + m ≤ N) (hm : m ≤ c) (hc : c ≤ 9223372036854775807) : Sz w (.slice (some ⟨g, o, none⟩) m c) m (fun i => b (o + i)) :=
  ⟨_, c, rfl, hm, hc, fun _ => ⟨g, o, rfl, h.lt, fun i hi => hb _ (by omega), fun i hi => by rw [h.cell, yC_get _ _ _ (by omega)]⟩⟩
theorem Oz.ne {g o n c y : Nat} (h : ¬ g = y) : Oz (.slice (some ⟨g, o, none⟩) n c) [y] := fun g' o' n' c' _ e h' => by
  simp only [Value.slice.injEq, Option.some.injEq, Addr.mk.injEq] at e
  obtain ⟨⟨rfl, _⟩, _⟩ := e
  exact h (by simpa using h')
set_option maxHeartbeats 8000000 in
set_option maxRecDepth 100000 in
theorem tagOf_s (k nn : Nat → Nat) (hk : ∀ i, i < 32 → k i < 256) (hn : ∀ i, i < 12 → nn i < 256) (v0 : Value) (n0 : Nat) (f0 : Nat → Nat) (v1 : Value) (n1 : Nat) (f1 : Nat → Nat) (w : World) (hv0 : Sz w v0 n0 f0) (hv1 : Sz w v1 n1 f1) :
    Calls Try.prog 29 #[.agg (yC 32 k), .agg (yC 12 nn), v0, v1] w fun e w' => e = .returned (.agg (yC 16 (tagT k nn n0 f0 n1 f1))) ∧ Chg w w' [] := by
  have HB : Hid (∀ w, Calls Try.prog 15 #[.agg (yC 32 k), .int .u32 0, .agg (yC 12 nn)] w fun e w' => e = .returned (.agg (yC 64 (bkB (st0 k 0 nn)))) ∧ Chg w w' []) := fun w => Block_s k 0 nn hk hn (by unfold V; omega) w
  have HF : Hid (∀ i, bkB (st0 k 0 nn) i < 256) := fun i => bkB_lt _ i
  have HV : Hid (Sz w v0 n0 f0 ∧ Sz w v1 n1 f1) := ⟨hv0, hv1⟩
  have HT : Hid (tagT k nn n0 f0 n1 f1 = tgB (tagA (bkB (st0 k 0 nn)) n0 f0 n1 f1) (fun i => bkB (st0 k 0 nn) (16 + i))) := rfl
  obtain ⟨F, hF⟩ : ∃ F, bkB (st0 k 0 nn) = F := ⟨_, rfl⟩
  rw [hF] at HB HF HT
  obtain ⟨T, hT⟩ : ∃ T, tagT k nn n0 f0 n1 f1 = T := ⟨_, rfl⟩
  rw [hT] at HT ⊢
  have HN : Hid (n0 ≤ 9223372036854775807 ∧ n1 ≤ 9223372036854775807) := ⟨hv0.ln, hv1.ln⟩
  obtain ⟨p0, c0, e0, _⟩ := id hv0
  obtain ⟨p1, c1, e1, _⟩ := id hv1
  subst e0 e1
  have w0 : IntKind.u64.wrap (n0 : Int) = (n0 : Int) := by have := HN.out; rw [IntKind.wrap_u64]; omega
  have w1 : IntKind.u64.wrap (n1 : Int) = (n1 : Int) := by have := HN.out; rw [IntKind.wrap_u64]; omega
  clear hk hn hF hT hv0 hv1
  go_enter Try.func29, Try.ntmps29
  go_wp2_with (first
    | (with_reducible refine load_b (BN.chg k3 (by simp)) 25 (.tmp 5) Try.underlying25 ?_ ?_ ?_ ?_ ?_ ?_
       · rfl
       · rfl
       · rfl
       · rfl
       · (rw [yC_size]; exact nonInfo))
    | (with_reducible refine load_b ((BK.chg k2 (by simp)).chg k3 (by simp)) 23 (.tmp 4) Try.underlying23 ?_ ?_ ?_ ?_ ?_ ?_
       · rfl
       · rfl
       · rfl
       · rfl
       · (rw [yC_size]; exact keyInfo))
    | (with_reducible refine alloc_w rfl 43 rfl (.agg (yC 16 (fun _ => 0))) zeroTag (yC 16 (fun _ => 0)) rfl ?_; intro rb w3 hrb BR k3)
    | (refine box_w rfl 25 _ rfl (yC 12 nn) rfl ?_; intro nb w2 hnb BN k2)
    | (refine box_w rfl 23 _ rfl (yC 32 k) rfl ?_; intro kb w1 hkb BK k1))
  refine (HB.out w3).mono ?_
  rintro e w4 ⟨rfl, k4⟩
  have BR4 := BR.chg k4 (by simp)
  have K4 : Chg w w4 [] := ((k1.trans1 k2).trans1 k3).trans1 k4
  have HR : Hid (w.heap.size ≤ rb ∧ rb < w4.heap.size) := ⟨by have := (k1.trans1 k2).size; omega, BR4.lt⟩
  clear BK BN BR k1 k2 k3 k4 hkb hnb hrb
  go_wp2_with (first
    | (have _h := BF6; with_reducible refine alloc_w rfl 42 rfl (.agg (yC 16 (fun _ => 0))) zeroB16 (yC 16 (fun _ => 0)) rfl ?_; intro lb w7 hlb BL k7)
    | (refine store_w BF rfl 39 _ _ (yC 64 F) rfl rfl rfl (by rw [yC_size]; exact b64Info) (by rw [yC_size, yC_size]) (yC_one 64 _) ?_; intro w6 BF6 k6)
    | (with_reducible refine alloc_w rfl 39 rfl (.agg (yC 64 (fun _ => 0))) zeroB64 (yC 64 (fun _ => 0)) rfl ?_; intro fb w5 hfb BF k5))
  have HO : Hid ((¬ fb = rb ∧ ¬ lb = rb ∧ ¬ lb = fb) ∧ w.heap.size ≤ fb ∧ w.heap.size ≤ lb) := ⟨⟨by have := HR.out; omega, by have := HR.out; have := k5.size; have := k6.size; omega, by have := BF.lt; have := k6.size; omega⟩, by have := K4.size; omega, by have := K4.size; have := k5.size; have := k6.size; omega⟩
  have K7 : Chg w w7 [] := ((K4.trans1 k5).new k6 HO.out.2.1).trans1 k7
  have BR7 := ((BR4.chg k5 (by simp)).chg k6 (by have := HO.out; simp; omega)).chg k7 (by simp)
  have BF7 := BF6.chg k7 (by simp)
  clear BF BF6 BR4 K4 k5 k6 k7 hfb hlb
  refine (putLong_s lb 0 8 16 16 (fun _ => 0) n0 42 w7 (by omega) (by omega) (by have := HN.out; unfold U; omega) (by omega) BL).mono ?_
  rintro e w8 ⟨rfl, BL8, k8⟩
  have K8 : Chg w w8 [] := K7.new k8 HO.out.2.2
  have BR8 := BR7.chg k8 (by have := HO.out; simp; omega)
  have BF8 := BF7.chg k8 (by have := HO.out; simp; omega)
  clear BL K7 BR7 BF7 k8
  go_wp2_with fail
  refine (putLong_s lb 8 8 8 16 (pl (fun _ => 0) 0 n0) n1 42 w8 (by omega) (by omega) (by have := HN.out; unfold U; omega) (by omega) BL8).mono ?_
  rintro e w9 ⟨rfl, BL9, k9⟩
  have K9 : Chg w w9 [] := K8.new k9 HO.out.2.2
  have BR9 := BR8.chg k9 (by have := HO.out; simp; omega)
  have BF9 := BF8.chg k9 (by have := HO.out; simp; omega)
  clear BL8 K8 BR8 BF8 k9
  have hat := fun w => run_arrayAt (P := Try.prog) w 23 5 32 (some ⟨fb, 0, none⟩) 32 64 Try.underlying23 (Nat.le_refl _)
  have HRG : Hid (w9.rangeAt fb 0 (yL 32 F)) := by
    have q := BF9.rng 0 32 (by omega)
    rw [yL_eq (g := F) (fun i _ => by rw [Nat.zero_add])] at q
    exact q
  go_wp2_with (first
    | (with_reducible refine load_mm ?_ 23 (.tmp 26) ?_ fb 0 ?_ (yL 32 F) _ ?_ Try.underlying23 ?_ ?_ (yC 32 F) ?_ ?_
       · rfl
       · rfl
       · rfl
       · exact HRG.out
       · rfl
       · (rw [yL_len]; exact keyInfo)
       · rfl)
    | simp only [hat])
  refine (newTagger_s F (fun i _ => HF.out i) w9).mono ?_
  rintro e w10 ⟨y, rfl, hy, TG, k10⟩
  have K10 : Chg w w10 [] := K9.trans1 k10
  have BR10 := BR9.chg k10 (by simp)
  have BL10 := BL9.chg k10 (by simp)
  have HY : Hid (¬ lb = y ∧ ¬ rb = y ∧ w.heap.size ≤ y) := ⟨by have := BL9.lt; omega, by have := BR9.lt; omega, by have := K9.size; omega⟩
  have HRK : Hid (rK F < 1361129467683753853853498429727072845824) := rK_lt (fun i _ => HF.out i)
  clear K9 BR9 BF9 BL9 k10 hy HRG hat
  obtain ⟨R, hR⟩ : ∃ R, rK F = R := ⟨_, rfl⟩
  have HTA : Hid (tagA F n0 f0 n1 f1 = tks R 16 (ln n0 n1) (tks R n1 f1 (tks R n0 f0 0 ((n0 + 15) / 16)) ((n1 + 15) / 16)) 1) := by rw [← hR]; exact rfl
  rw [hR] at HRK TG
  clear hR
  have HZ : Hid (Oz (.slice p0 n0 c0) [y] ∧ Oz (.slice p1 n1 c1) [y]) := ⟨HV.out.1.new [y] (by have := HY.out; simp; omega), HV.out.2.new [y] (by have := HY.out; simp; omega)⟩
  go_wp2_with fail
  refine (takeFilled_s y 0 R (fun i => F (16 + i)) HRK.out (.slice p0 n0 c0) n0 f0 w10 TG (HV.out.1.chg K10 (Oz.nil _)) HZ.out.1).mono ?_
  rintro e w11 ⟨rfl, TG2, k11⟩
  have K11 : Chg w w11 [] := K10.new k11 HY.out.2.2
  have BR11 := BR10.chg k11 (by have := HY.out; simp; omega)
  have BL11 := BL10.chg k11 (by have := HY.out; simp; omega)
  clear K10 BR10 BL10 k11 TG
  obtain ⟨A1, hA1⟩ : ∃ A, tks R n0 f0 0 ((n0 + 15) / 16) = A := ⟨_, rfl⟩
  rw [hA1] at TG2 HTA
  clear hA1
  go_wp2_with fail
  refine (takeFilled_s y A1 R (fun i => F (16 + i)) HRK.out (.slice p1 n1 c1) n1 f1 w11 TG2 (HV.out.2.chg K11 (Oz.nil _)) HZ.out.2).mono ?_
  rintro e w12 ⟨rfl, TG3, k12⟩
  have K12 : Chg w w12 [] := K11.new k12 HY.out.2.2
  have BR12 := BR11.chg k12 (by have := HY.out; simp; omega)
  have BL12 := BL11.chg k12 (by have := HY.out; simp; omega)
  clear K11 BR11 BL11 k12 TG2
  obtain ⟨A2, hA2⟩ : ∃ A, tks R n1 f1 A1 ((n1 + 15) / 16) = A := ⟨_, rfl⟩
  rw [hA2] at TG3 HTA
  clear hA2
  go_wp2_with fail
  have hsz : Sz w12 (.slice (some ⟨lb, 0, none⟩) 16 16) 16 (ln n0 n1) := by
    have q := BL12.sz (b := ln n0 n1) (fun i _ => ln_lt n0 n1 i) 0 16 16 (by omega) (by omega) (by omega)
    rw [show (fun i => ln n0 n1 (0 + i)) = ln n0 n1 from funext fun i => by rw [Nat.zero_add]] at q
    exact q
  refine (takeFilled_s y A2 R (fun i => F (16 + i)) HRK.out (.slice (some ⟨lb, 0, none⟩) 16 16) 16 (ln n0 n1) w12 TG3 hsz (Oz.ne HY.out.1)).mono ?_
  rintro e w13 ⟨rfl, TG4, k13⟩
  have K13 : Chg w w13 [] := K12.new k13 HY.out.2.2
  have BR13 := BR12.chg k13 (by have := HY.out; simp; omega)
  replace TG4 : Tg w13 y (tks R 16 (ln n0 n1) A2 1) R (fun i => F (16 + i)) := TG4
  rw [← HTA.out] at TG4
  clear K12 BR12 BL12 k13 TG3 hsz HTA
  go_wp2_with fail
  refine (tag_s y (tagA F n0 f0 n1 f1) R (fun i => F (16 + i)) (fun i _ => HF.out _) w13 TG4).mono ?_
  rw [← HT.out]
  rintro e w14 ⟨rfl, k14⟩
  have K14 : Chg w w14 [] := K13.trans1 k14
  have BR14 := BR13.chg k14 (by simp)
  clear K13 BR13 k14 TG4
  go_wp2_with (refine store_w BR14 rfl 43 _ _ (yC 16 T) rfl rfl rfl (by rw [yC_size]; exact tagInfo) (by rw [yC_size, yC_size]) (yC_one 16 _) ?_; intro w15 BR15 k15)
  have C : Chg w w15 [] := K14.new k15 HR.out.1
  exact bodyPost_ret (results_cell_row Try.results29 _ _ rb 43 (yC 16 T) (0, 0) _ rfl BR15 Try.underlying43 rfl (by rw [yC_size]; exact tagInfo)) rfl ⟨rfl, C⟩
end Go.Proofs.Ytnopkojpgemldaa
