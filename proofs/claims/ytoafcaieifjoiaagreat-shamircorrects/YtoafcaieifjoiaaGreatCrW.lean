/- ShamirCorrects: the walk. -/
import Derived.Test.YtoafcaieifjoiaaGreatGsK
import Derived.Test.YtoafcaieifjoiaaGreatMgV
import Derived.Test.YtoafcaieifjoiaaGreatMgE
set_option linter.unusedVariables false
set_option linter.unusedSimpArgs false
set_option linter.unnecessarySimpa false
namespace Go.Proofs.YtoafcaieifjoiaaGreat
open Go.RowKit N

theorem enR_wrapC (d : Nat → Int) (N : Nat) (t : Int) : IntKind.i64.wrap (enR d N t) = enR d N t := by
  unfold enR
  split
  · split
    · rfl
    · exact idR_wrap d N
  · rfl
theorem oi_ilC {w : World} {base : Nat} {v : Value} {l : List Int} (h : Oi w base v l) : Il w v l.length (fun j => l.getD j 0) := by
  have q := OwnR.rl h
  rcases q.2 with h2 | ⟨g, o, cap, e, h1, h2, h3, h4⟩
  · exact Or.inl h2
  · refine Or.inr ⟨g, o, cap, e, h1, h2, h3, fun i hi => ?_⟩
    have := h4 i hi 0 (.int .i64 (l.getD i 0)) rfl
    rwa [Nat.mul_one, Nat.add_zero] at this
/-- Both sides answer one. -/
def CrB (w' : World) (vp ip : Value) (cp : Int) (vq iq : Value) (cq : Int) : Prop := ∃ (n m : Nat) (f : Nat → Nat) (g : Nat → Int), cp = cq ∧ IntKind.i64.wrap cp = cp ∧ Ls w' vp n f ∧ Ls w' vq n f ∧ Il w' ip m g ∧ Il w' iq m g ∧ n ≤ 255 ∧ m ≤ 255
theorem ls_nilC (w : World) : Ls w (.slice none 0 0) 0 (fun _ => 0) := ⟨fun i hi => absurd hi (Nat.not_lt_zero _), Or.inl ⟨rfl, rfl⟩⟩
theorem il_nilC (w : World) : Il w (.slice none 0 0) 0 (fun _ => 0) := Or.inl ⟨rfl, rfl⟩
theorem crp_form {d y : Nat → Int} {N : Nat} {t : Int} {base : Nat} {w : World} {r : Value} (h : CrP d y N t base w r) : ∃ v i c, r = .tuple #[v, i, .int .i64 c] := by
  rcases h with ⟨c, rfl, _⟩ | ⟨_, g, s, c, rfl, _⟩
  · exact ⟨_, _, _, rfl⟩
  · exact ⟨_, _, _, rfl⟩
theorem crq_form {d y : Nat → Int} {N : Nat} {t : Int} {base : Nat} {w : World} {r : Value} (h : CrQ d y N t base w r) : ∃ v i c, r = .tuple #[v, i, .int .i64 c] := by
  rcases h with ⟨c, rfl, _⟩ | ⟨_, g, s, c, rfl, _⟩
  · exact ⟨_, _, _, rfl⟩
  · exact ⟨_, _, _, rfl⟩
theorem cr_both {d y : Nat → Int} {N : Nat} {t : Int} {b1 b2 : Nat} {w1 w2 : World} {vp ip vq iq : Value} {cp cq : Int} (hP : CrP d y N t b1 w1 (.tuple #[vp, ip, .int .i64 cp])) (k : Chg w1 w2 []) (hQ : CrQ d y N t b2 w2 (.tuple #[vq, iq, .int .i64 cq])) : CrB w2 vp ip cp vq iq cq := by
  rcases hP with ⟨c, e1, hc⟩ | ⟨hE, g, s, c, e1, _, _, S, rc, hs, O⟩
  · simp only [Value.tuple.injEq, Array.mk.injEq, List.cons.injEq, Value.int.injEq, and_true, true_and] at e1
    obtain ⟨rfl, rfl, rfl⟩ := e1
    rcases hQ with ⟨c', e2, hc'⟩ | ⟨hE', g', s', c', e2, S', rc', hs', O'⟩
    · simp only [Value.tuple.injEq, Array.mk.injEq, List.cons.injEq, Value.int.injEq, and_true, true_and] at e2
      obtain ⟨rfl, rfl, rfl⟩ := e2
      have h2 : cp = cq ∧ IntKind.i64.wrap cp = cp := by
        rcases hc with ⟨a1, a2⟩ | ⟨a1, a2, _⟩ <;> rcases hc' with ⟨a3, a4⟩ | ⟨a3, a4, _⟩
        · exact ⟨by rw [a2, a4], by rw [a2]; exact enR_wrapC d N t⟩
        · exact absurd a3 a1
        · exact absurd a1 a3
        · exact ⟨by rw [a2, a4], by rw [a2]; rfl⟩
      exact ⟨0, 0, _, _, h2.1, h2.2, ls_nilC _, ls_nilC _, il_nilC _, il_nilC _, by omega, by omega⟩
    · rcases hc with ⟨a1, _⟩ | ⟨_, _, a3⟩
      · exact absurd hE' a1
      · exact absurd hs' (a3 _)
  · rcases hQ with ⟨c', e2, hc'⟩ | ⟨hE', g', s', c', e2, S', rc', hs', O'⟩
    · rcases hc' with ⟨a1, _⟩ | ⟨_, _, a3⟩
      · exact absurd hE a1
      · exact absurd hs (a3 _)
    · simp only [Value.tuple.injEq, Array.mk.injEq, List.cons.injEq, Value.int.injEq, and_true, true_and] at e1 e2
      obtain ⟨rfl, rfl, rfl⟩ := e1
      obtain ⟨rfl, rfl, rfl⟩ := e2
      obtain ⟨t1, t2, t3, hid⟩ := enR_zero hE
      have hI := (idR_zero hid).1
      have h255 := idE_len hI
      obtain ⟨T, hT⟩ : ∃ T, t.toNat = T := ⟨_, rfl⟩
      rw [hT] at S S' hs hs' O O' ⊢
      have hTN : T + (N - T) / 2 + (N - T) / 2 ≤ N := by omega
      have ho := co_one hI hTN (nT c) (nT c') hs hs'
      have hce : ∀ j, j < T → nT c' j = nT c j := fun j hj => by
        have q := ho j hj
        rw [nT_c _ _ (rc j).1, nT_c _ _ (rc' j).1, mod_id (rc j), mod_id (rc' j)] at q
        unfold nT; rw [q]
      have hw := srt_wnt (f := nT c) (M := T) (y := y) (b := stB (nT c') T d y) (idE_zero hI).1 (fun i _ => by unfold stB; rw [ev_cong (d i) ho])
      have I1 := oi_ilC (O.chg k)
      have I2 := oi_ilC O'
      rw [← hw] at I2
      have hlen : (srt (stL (nT c) T d y N)).length ≤ 255 := by rw [srt_len]; omega
      exact ⟨T, _, nT c, _, rfl, rfl, (S.chg k (by simp)).ls (by omega) (fun j _ => r256_rl (rc j)) (Nat.le_refl _), (S'.ls (by omega) (fun j _ => r256_rl (rc' j)) (Nat.le_refl _)).congr hce, I1, I2, by omega, hlen⟩
set_option maxHeartbeats 32000000 in
set_option maxRecDepth 100000 in
theorem corrects_walk (u : Value) (N : Nat) (d y : Nat → Int) (t : Int) (hN : N ≤ 3518437208780) (w : World) (hL : Hl w u N d y) :
    Calls Tryz.prog 7 #[u, .int .i64 t] w fun e w' => e = .returned (.bool true) ∧ Chg w w' [] := by
  have hge := feGuard
  have HN : Hid (N ≤ 3518437208780) := hN
  have HL : Hid (Hl w u N d y) := hL
  have HRy : Hid (∀ j, j < N → R256 (y j)) := hL.2
  have HCs : Hid (∀ v W, Hl W v N d y → Calls Tryz.prog 34 #[v, .int .i64 t] W fun e w' => ∃ r, e = .returned r ∧ CrP d y N t W.heap.size w' r ∧ Chg W w' []) := fun v W h => Correct_g v N d y (by have := HN.out; omega) t W h
  have HCr : Hid (∀ v W, Hl W v N d y → Calls Tryz.prog 35 #[v, .int .i64 t] W fun e w' => ∃ r, e = .returned r ∧ CrQ d y N t W.heap.size w' r ∧ Chg W w' []) := fun v W h => Correct_r v N d y (by have := HN.out; omega) t W h
  clear hN hL
  go_enter Tryz.func7, Tryz.ntmps7
  go_wp2_with (with_reducible refine alloc_w rfl 42 rfl (.agg (gvC gNh)) zeroGh (gvC gNh) rfl ?_; intro gb w2 hgb Bg k2)
  have C : Chg w w2 [] := k2
  have HGB : Hid (w.heap.size ≤ gb) := hgb
  have hgl : gb ≤ w2.heap.size := Nat.le_of_lt Bg.lt
  have G0 : Gv w2 gb gb gNh 16 42 49 96 33 0 (fun _ => 0) (fun _ _ => []) := Gv.noneH Bg _ _
  clear hgb k2 Bg
  --CUT0
  refine (GivenShares_s gb N gb 0 u d y gNh _ _ w2 HN.out (by decide) hgl (HL.out.chg C) G0).mono ?_
  rintro e w3 ⟨r, rfl, o, la, lb, rfl, ho, c1, bo, G1⟩
  have gch1 : gch gb gNh 16 = [gb] := rfl
  rw [gch1] at c1
  have X1 := copy_hl bo (by omega) (by have := HN.out; omega) HRy.out
  replace C : Chg w w3 [] := C.trans c1 (fun x hx => Or.inr (by simp at hx; subst hx; exact HGB.out))
  obtain ⟨uv, huv⟩ : ∃ uv : Value, .slice (some ⟨o, 0, none⟩) N (N + 3) = uv := ⟨_, rfl⟩
  rw [huv] at X1
  rw [huv]
  obtain ⟨Ga, hGa⟩ : ∃ G, upV (upV gNh 16 la) (16 + 1) lb = G := ⟨_, rfl⟩
  have HGa : Hid (∀ q, q < 30 → ¬ q = 16 → ¬ q = 17 → Ga q = .slice none 0 0) := fun q _ h1 h2 => by rw [← hGa, upV_other _ _ _ _ h2, upV_other _ _ _ _ h1]; rfl
  rw [hGa] at G1
  have HX : Hid (Hl w3 uv N d y) := X1
  clear c1 bo ho gch1 X1 hgl huv hGa G0
  go_wp2_with fail
  --CUT1
  refine (HCs.out _ _ HX.out).mono ?_
  rintro e w4 ⟨r, rfl, hP, k⟩
  obtain ⟨vp, ip, cp, rfl⟩ := crp_form hP
  have HP : Hid (CrP d y N t w3.heap.size w4 (.tuple #[vp, ip, .int .i64 cp])) := hP
  replace C := C.trans1 k
  replace G1 := G1.chg k
  clear k hP
  go_wp2_with fail
  --CUT2
  refine (HCr.out _ _ (HL.out.chg C)).mono ?_
  rintro e wr ⟨r, rfl, hQ, k⟩
  obtain ⟨vq, iq, cq, rfl⟩ := crq_form hQ
  have HB := cr_both HP.out k hQ
  replace C := C.trans1 k
  replace G1 := G1.chg k
  clear k hQ HP
  obtain ⟨n, m, f, g, rfl, hwc, L1, L2, I1, I2, hn, hm⟩ := HB
  have HWC : Hid (IntKind.i64.wrap cp = cp) := hwc
  have HLS : Hid (Ls wr vp n f ∧ Ls wr vq n f ∧ n ≤ 255) := ⟨L1, L2, hn⟩
  have HIS : Hid (Il wr ip m g ∧ Il wr iq m g ∧ m ≤ 255) := ⟨I1, I2, hm⟩
  have HIT : Hid (∀ W, Chg wr W [] → Calls Tryz.prog 18 #[.pointer (some ⟨gb, 0, none⟩)] W fun e w' => e = .returned (.bool true) ∧ Chg W w' []) := fun W h =>
    Intact_h gb gb (0 + 1) Ga _ _ W (G1.chg h) (fun q h0 h1 h2 => HGa.out q h0 h1 h2) (fun j hj => by have := HN.out; split <;> omega)
      (fun j hj => by
        obtain ⟨z1, z2, hz1, hz2⟩ := gv_shE N d y HRy.out
        obtain rfl : j = 0 := by omega
        exact ⟨z1, z2, by simp only [if_pos]; exact hz1, hz2⟩) (by omega)
  clear G1 HL HX HN HGa HCs HCr HRy L1 L2 I1 I2 hn hm hwc
  have h11 : (cp == cp) = true := by simp
  go_wp2_with fail
  --CUT3
  refine (SameScalars_t _ _ n f (by have := HLS.out.2.2; omega) _ HLS.out.1 HLS.out.2.1).mono ?_
  rintro e v1 ⟨rfl, j1⟩
  go_wp2_with fail
  --CUT4
  refine (SameInts_j _ _ m g (by have := HIS.out.2.2; omega) _ (HIS.out.1.chg j1) (HIS.out.2.1.chg j1)).mono ?_
  rintro e v2 ⟨rfl, j2⟩
  go_wp2_with (go_at_call 16; refine (numS cp HWC.out _).mono ?_; rintro e w' ⟨rfl, rfl⟩)
  --CUT5
  refine (HIT.out _ (j1.trans1 j2)).mono ?_
  rintro e v3 ⟨rfl, j3⟩
  go_wp2_with fail
  refine (alive_s _).mono ?_
  rintro e v4 ⟨rfl, j4⟩
  go_wp2_with fail
  go_ret
  exact ⟨rfl, (((C.trans1 j1).trans1 j2).trans1 j3).trans1 j4⟩
end Go.Proofs.YtoafcaieifjoiaaGreat
