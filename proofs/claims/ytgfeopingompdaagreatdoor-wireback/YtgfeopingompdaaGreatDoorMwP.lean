/- Joined: WEt, W59. -/
import Derived.Test.YtgfeopingompdaaGreatDoorMwH
import Derived.Test.YtgfeopingompdaaGreatDoorAsL
import Derived.Test.YtgfeopingompdaaGreatDoorMwM
import Derived.Test.YtgfeopingompdaaGreatDoorMwN
import Derived.Test.YtgfeopingompdaaGreatDoorMwG
/- The handle variable that the row lists. -/
set_option linter.constructorNameAsVariable false
set_option linter.unusedVariables false
set_option linter.unusedSimpArgs false
set_option linter.unnecessarySimpa false
namespace Go.Proofs.YtgfeopingompdaaGreatDoor
open Go.ChangeShapes Go.WideShapes Go.ChangeAt Go.RowKit Go.Deep

theorem etNamed : Tryz.prog.globalNamed "errors.errorType" = some 0 := by kernel_rfl
theorem etRt : (Tryz.prog.cutTypes.find? (·.1 == "internal/reflectlite.rtype")).map (·.2) = some 217 := by kernel_rfl
theorem etRow : ((List.range 295).filter fun t => Tryz.prog.rowNamed t [101, 114, 114, 111, 114]) = [54] := by kernel_rfl
theorem etSize : Tryz.prog.types.size = 295 := by kernel_rfl
theorem laidMetH_hand {P : Program} {l : List (String × DataW Unit)} {w : World} {x : String × DataW Unit} {xs : List (String × DataW Unit)} (hf : (l.filter fun x => x.2.handleName?.isSome) = x :: xs) (h : laidMetH P l w) : handlesMet P (x :: xs) w := by
  unfold laidMetH at h
  rw [hf] at h
  exact h.2
theorem et_of_laid {W : World} (h : laidMetH Tryz.prog tabs W) : EtG W := by
  have h' : handlesMet Tryz.prog [("errors.errorType", Rows.laid_errors_errorType)] W := laidMetH_hand (x := ("errors.errorType", Rows.laid_errors_errorType)) (xs := []) (by kernel_rfl) h
  obtain ⟨name, u, ty, e1, e2, e3, e4, e5⟩ := h' _ (List.mem_singleton.2 rfl)
  have en : name = [101, 114, 114, 111, 114] := (Option.some.inj e1).symm
  subst en
  obtain rfl := Option.some.inj (etRt.symm.trans e2)
  have hm : ty ∈ (List.range 295).filter fun t => Tryz.prog.rowNamed t [101, 114, 114, 111, 114] := List.mem_filter.2 ⟨List.mem_range.2 (by rw [← etSize]; exact e3), e4⟩
  rw [etRow] at hm
  obtain rfl := List.mem_singleton.1 hm
  have hh : typeHandle Tryz.prog 54 = .pointer (some ⟨6, 54, none⟩) := by kernel_rfl
  rw [hh] at e5
  unfold EtG
  simpa using World.var?_cell etNamed e5 0
end Go.Proofs.YtgfeopingompdaaGreatDoor

/- rimelaw10.WireBack: the walk. -/
namespace Go.Proofs.YtgfeopingompdaaGreatDoor
open Go.RowKit

/-- A zero literal behind a guard that holds. -/
theorem build_g {P : Program} {ops : Array Oper} {rest : List Oper} {op : Oper} {a : Act} {w : World} {Q : Exit → Act → World → Prop} (hw : Region.wanted op (yielded ops a.tmps) = true) (t : TypeId) (ho : op.op = .build t #[]) (cells : Array Value) (hb : P.built t [] = some cells)
    (h : wpList P ops Q rest (a.put op.dst (.agg cells)) w) : wpList P ops Q (op :: rest) a w :=
  wpList_step fun K hK => by
    rw [if_pos hw]
    refine wp_build t #[] ho (by simpa using congrArg Option.isSome hb) ?_
    simp only [Array.map_empty]
    rw [show P.built t [] = some cells from hb]
    exact hK _ _ h
/-- What Decode answers of any bytes, as WireBack needs it. -/
def DbQ (n : Nat) (F : Nat → Nat) (b : Nat) (e : Ending) (w' : World) : Prop :=
  (∃ fv s a y, e = .returned (.tuple #[.agg (msC (ms0 0)), fv]) ∧ Ft w' b fv s ((a : Nat) : Int) ((y : Nat) : Int) ∧ NmF s y) ∨
  (∃ m N d h c T ft, BkE n F m N d h c T ft ∧ Cl w' m.list N d h c ∧ Sl w' m.text T ft ∧ e = .returned (.tuple #[.agg (msC m), .nilIface]))
theorem Decode_b (v : Value) (n : Nat) (F : Nat → Nat) (w : World) (hG : Gl w) (hS : Sl w v n F) : Calls Tryz.prog 16 #[v] w fun e w' => DbQ n F w.heap.size e w' ∧ Chg w w' [] := by
  rcases hS with ⟨rfl, rfl⟩ | ⟨g, o, c, rfl, hc, hc2, hB⟩
  · refine (Decode_none none 0 w).mono ?_
    rintro e w' ⟨⟨fv, rfl, hf⟩, k⟩
    exact ⟨Or.inl ⟨fv, sFrame, 0, 3, rfl, hf, by unfold Nmd; omega, ne0 (List.cons_ne_nil _ _)⟩, k⟩
  · refine (Decode_s g o n c F hc hc2 w hG hB).mono ?_
    rintro e w' ⟨⟨s, a, y, h1, fv, rfl, h3⟩ | ⟨B, M', _, rfl, h2⟩, k⟩
    · exact ⟨Or.inl ⟨fv, s, a, y, rfl, h3, FrP_nm h1⟩, k⟩
    · obtain ⟨N, d, h, b, T, ft, q1, q2, q3⟩ := back_en hB.bd h2
      exact ⟨Or.inr ⟨M', N, d, h, b, T, ft, q1, q2, q3, rfl⟩, k⟩
set_option maxHeartbeats 24000000 in
set_option maxRecDepth 100000 in
theorem back_walk (m : Ms) (N : Nat) (d : Nat → Int) (h b : Nat → Nat → Nat) (M : Nat) (ft : Nat → Nat) (hm : MsB m) (v1 : Value) (n1 : Nat) (f1 : Nat → Nat) (w : World) (hG : Gl w) (hE : EtG w) (hL : Cl w m.list N d h b) (hT : Sl w m.text M ft) (hS : Sl w v1 n1 f1) :
    Calls Tryz.prog 7 #[.agg (msC m), v1] w fun e w' => e = .returned (.bool true) ∧ Chg w w' [] := by
  have HWK : Hid (∀ W, Chg w W [] → Calls Tryz.prog 14 #[] W fun e w' => e = .returned (.bool true) ∧ Chg W w' []) := fun W k => works_s W (hG.chg k (by simp) (by simp))
  have HEN : Hid (∀ W, Chg w W [] → Calls Tryz.prog 8 #[.agg (msC m)] W fun e w' => EnQ2 m N d h b M ft W e w') := fun W k => Encode_s m N d h b M ft hm W (hG.chg k (by simp) (by simp)) (hL.chg k) (hT.chg k (by simp [Off]))
  have HUS : Hid (EnG m N d M → ∀ W, Chg w W [] → Calls Tryz.prog 29 #[.agg (msC m)] W fun e w' => ∃ v, e = .returned v ∧ UsV m N d h b M ft W.heap.size w' v ∧ Chg W w' []) := fun hg W k => used_u m N d h b M ft hg W (hL.chg k) (hT.chg k (by simp [Off]))
  have HCB : Hid (∀ j, j < N → ∀ i, i < 32 → h j i < 256 ∧ b j i < 256) := hL.2
  have HDB : Hid (∀ W, Chg w W [] → Calls Tryz.prog 16 #[v1] W fun e w' => DbQ n1 f1 W.heap.size e w' ∧ Chg W w' []) := fun W k => Decode_b v1 n1 f1 W (hG.chg k (by simp) (by simp)) (hS.chg k (by simp [Off]))
  have HNM : Hid (∀ W fv s (a y : Nat) b, Chg w W [] → Ft W b fv s ((a : Nat) : Int) ((y : Nat) : Int) → NmF s y → Calls Tryz.prog 30 #[fv] W fun e w' => e = .returned (.bool true) ∧ Chg W w' []) := fun W fv s a y b k hf hn => by
    obtain ⟨g, rfl, _, hB⟩ := hf
    exact named_s y hn.1 g s a W hB hn.2 (hE.chg k)
  have HS1 : Hid (∀ W, Chg w W [] → Sl W v1 n1 f1) := fun W k => hS.chg k (by simp [Off])
  have HG : Hid (Gl w) := hG
  obtain ⟨p1, c1, hv1⟩ := slFm hS
  clear hm hG hE hL hT hS
  subst hv1
  go_enter Tryz.func7, Tryz.ntmps7
  go_wp2_with (refine box_w rfl 35 _ rfl (msC m) rfl ?_; intro mb w1 hmb BM k1)
  refine (HWK.out w1 k1).mono ?_
  rintro e w2 ⟨rfl, k2⟩
  have BM2 := BM.chg k2 (by simp)
  have K2 := k1.trans1 k2
  clear BM k1 k2 hmb
  go_wp2_with (refine wpList_load_row rfl 35 _ rfl mb rfl 35 _ (0, 0) _ BM2 Tryz.underlying35 rfl (by rw [msC_size]; exact msInfoW) ?_)
  refine (HEN.out w2 K2).mono ?_
  rintro e w3 (⟨hg, v, rfl, ⟨s, a, y, hEP, hF⟩, k3⟩ | ⟨hg, v, rfl, hO, k3⟩)
  · obtain ⟨gf, rfl, hgf, BF⟩ := hF
    have HNE : Hid (NmF s y) := EnP_nm hEP
    have BM3 := BM2.chg k3 (by simp)
    have K3 := K2.trans1 k3
    clear hg hEP BM2 K2 k3
    go_wp2_with fail
    refine (HNM.out w3 _ s a y 0 K3 ⟨gf, rfl, Nat.zero_le _, BF⟩ HNE.out).mono ?_
    rintro e w4 ⟨rfl, k4⟩
    have K4 := K3.trans1 k4
    clear BM3 K3 k4 BF hgf
    go_wp2_with fail
    refine (HDB.out w4 K4).mono ?_
    rintro e x1 ⟨⟨fv, s1, a1, y1, rfl, hft, hnm⟩ | ⟨mm, N1, d1, hh1, bb1, T1, ft1, hbk, hcl, hsl, rfl⟩, kx1⟩
    · have X1 := K4.trans1 kx1
      obtain ⟨gq, rfl, hgq, BQ⟩ := hft
      have HNF : Hid (NmF s1 y1) := hnm
      clear K4 kx1 hnm hgq
      go_wp2_with (first
        | (refine store_w BY rfl 35 _ _ (msC (ms0 0)) rfl rfl rfl (by rw [msC_size]; exact msInfoW) rfl (ms_oneC _ rfl rfl) ?_; intro x3 BY3 kx3)
        | (with_reducible refine alloc_w rfl 35 rfl (.agg (msC (ms0 0))) zeroMsg (msC (ms0 0)) rfl ?_; intro yb x2 hyb BY kx2))
      have X3 := X1.trans1 (kx2.new kx3 hyb)
      have BQ3 := BQ.chg (kx2.new kx3 hyb) (by simp)
      clear X1 BQ kx2 kx3 BY hyb
      refine (HNM.out x3 _ s1 a1 y1 0 X3 ⟨gq, rfl, Nat.zero_le _, BQ3⟩ HNF.out).mono ?_
      rintro e x4 ⟨rfl, kx4⟩
      have X4 := X3.trans1 kx4
      have BY4 := BY3.chg kx4 (by simp)
      clear X3 BY3 kx4 BQ3
      go_wp2_with (first
        | (refine load_gm (by rfl) 35 (.tmp 12) rfl yb 0 rfl (msL (ms0 0)) (ms_rg BY4 0 _ (fun j _ => by rw [Nat.zero_add])) Tryz.underlying35 rfl (by rw [msL_len]; exact msInfoW) ?_)
        | (refine build_g (by rfl) 35 rfl (msC (ms0 0)) builtM0b ?_))
      refine (Same0b x4).mono ?_
      rintro e x5 ⟨rfl, kx5⟩
      go_wp2_with fail
      go_ret
      exact ⟨rfl, X4.trans1 kx5⟩
    · obtain ⟨hg1, hmb1, hn1, hfr1, hse1⟩ := hbk
      have X1 := K4.trans1 kx1
      have HCL : Hid (∀ W, Chg x1 W [] → Cl W mm.list N1 d1 hh1 bb1) := fun W q => hcl.chg q
      have HSL : Hid (∀ W, Chg x1 W [] → Sl W mm.text T1 ft1) := fun W q => hsl.chg q (by simp [Off])
      have HEN1 : Hid (∀ W, Chg x1 W [] → Calls Tryz.prog 8 #[.agg (msC mm)] W fun e w' => EnQ2 mm N1 d1 hh1 bb1 T1 ft1 W e w') := fun W q => Encode_s mm N1 d1 hh1 bb1 T1 ft1 hmb1 W (HG.out.chg (X1.trans1 q) (by simp) (by simp)) (hcl.chg q) (hsl.chg q (by simp [Off]))
      have HUS1 : Hid (∀ W, Chg x1 W [] → Calls Tryz.prog 29 #[.agg (msC mm)] W fun e w' => ∃ v, e = .returned v ∧ UsV mm N1 d1 hh1 bb1 T1 ft1 W.heap.size w' v ∧ Chg W w' []) := fun W q => used_u mm N1 d1 hh1 bb1 T1 ft1 hg1 W (hcl.chg q) (hsl.chg q (by simp [Off]))
      have HSM : Hid (∀ u W B, Chg x1 W [] → UsV mm N1 d1 hh1 bb1 T1 ft1 B W u → Calls Tryz.prog 20 #[.agg (msC mm), u] W fun e w' => e = .returned (.bool true) ∧ Chg W w' []) := fun u W B q hu => by
        obtain ⟨vl, vt, rfl, u2, u3, u4⟩ := hu
        refine (SameMsg_w mm N1 d1 hh1 bb1 T1 ft1 { usM mm with list := vl, text := vt } (uK mm N1) d1 hh1 bb1 (uK mm T1) ft1 W (HCL.out W q) (HSL.out W q).zb ⟨u2.rl, u3⟩ u4.sl.zb).mono ?_
        rintro e w' ⟨rfl, kk⟩
        exact ⟨congrArg (fun q => Ending.returned (.bool q)) hse1, kk⟩
      have HSB : Hid (∀ y W B, Chg x1 W [] → Own W B y n1 (frB mm.kind.toNat (enN mm N1 T1) (enF mm N1 d1 hh1 bb1 T1 ft1)) → Calls Tryz.prog 11 #[y, .slice p1 n1 c1] W fun e w' => e = .returned (.bool true) ∧ Chg W w' []) := fun y W B q hy => by
        refine (SameBytes_w y n1 _ (.slice p1 n1 c1) n1 f1 W hy.sl.zb (HS1.out W (X1.trans1 q)).zb).mono ?_
        rintro e w' ⟨rfl, kk⟩
        exact ⟨by rw [(eqB_iff _ _ _ _).2 ⟨rfl, hfr1⟩], kk⟩
      have HG1 : Hid (EnG mm N1 d1 T1 ∧ n1 = 14 + enN mm N1 T1) := ⟨hg1, hn1⟩
      have HO1 : Hid (mm.list.oneCell' = true ∧ mm.text.oneCell' = true) := by
        obtain ⟨p, c, e1, _⟩ := hcl.1.form
        obtain ⟨p', c', e2⟩ := slFm hsl
        exact ⟨by rw [e1]; rfl, by rw [e2]; rfl⟩
      clear K4 kx1 hg1 hmb1 hn1 hfr1 hse1 hcl hsl
      go_wp2_with (first
        | (refine store_w BY rfl 35 _ _ (msC mm) rfl rfl rfl (by rw [msC_size]; exact msInfoW) (by rw [msC_size, msC_size]) (ms_oneC _ HO1.out.1 HO1.out.2) ?_; intro x3 BY3 kx3)
        | (with_reducible refine alloc_w rfl 35 rfl (.agg (msC (ms0 0))) zeroMsg (msC (ms0 0)) rfl ?_; intro yb x2 hyb BY kx2)
        | (refine wpList_load_row rfl 35 _ rfl yb rfl 35 _ (0, 0) _ BY3 Tryz.underlying35 rfl (by rw [msC_size]; exact msInfoW) ?_))
      have X3 := X1.trans1 (kx2.new kx3 hyb)
      have Y3 : Chg x1 x3 [] := kx2.new kx3 hyb
      clear X1 kx2 kx3 BY hyb
      refine (HEN1.out x3 Y3).mono ?_
      rintro e x4 (⟨hgn, _⟩ | ⟨_, vy, rfl, hOy, kx4⟩)
      · exact absurd HG1.out.1 hgn
      obtain ⟨py, cy, hvy⟩ := slFm hOy.sl
      subst hvy
      rw [show 4 + 2 + 4 + enN mm N1 T1 + 4 = n1 by have := HG1.out.2; omega] at hOy ⊢
      have HOY : Hid (Own x4 x3.heap.size (.slice py n1 cy) n1 (frB mm.kind.toNat (enN mm N1 T1) (enF mm N1 d1 hh1 bb1 T1 ft1))) := hOy
      have BY4 := BY3.chg kx4 (by simp)
      have X4 := X3.trans1 kx4
      have Y4 := Y3.trans1 kx4
      clear hOy BY3 X3 Y3 kx4
      go_wp2_with fail
      have hHeld : Blk x4.drew yb (msC mm) 35 := BY4.drew
      have C4 := X4.drew
      have D4 := Y4.drew
      have E4 : Chg x4 x4.drew [] := (Chg.refl x4 []).drew
      refine lt_begin (fun w' => Blk w' yb (msC mm) 35) (fun _ => false) (by kernel_rfl) ?_
      obtain ⟨z, hz⟩ : ∃ z, z = x4.drew := ⟨_, rfl⟩
      rw [← hz] at hHeld C4 D4 E4 ⊢
      clear hz BY4 X4 Y4
      refine lt_val (v := ?_) 0 (some 87) rfl (by kernel_rfl) (by kernel_rfl) (by kernel_rfl) (fun _ _ _ h => h) rfl rfl (fun w => ?_) ?_
      rotate_left
      · (go_simp; try with_reducible rfl)
      try simp only [Act.put, List.setIfInBounds_toArray, List.set_cons_zero, List.set_cons_succ]
      refine lt_val (v := (.bool true)) 1 (some 88) rfl (by kernel_rfl) (by kernel_rfl) (by kernel_rfl) (fun _ _ _ h => h) rfl rfl (fun w => ?_) ?_
      · (go_simp; try with_reducible rfl)
      try simp only [Act.put, List.setIfInBounds_toArray, List.set_cons_zero, List.set_cons_succ]
      refine lt_val (v := (.bool true)) 2 (some 89) rfl (by kernel_rfl) (by kernel_rfl) (by kernel_rfl) (fun _ _ _ h => h) rfl rfl (fun w => ?_) ?_
      · (go_simp; try with_reducible rfl)
      try simp only [Act.put, List.setIfInBounds_toArray, List.set_cons_zero, List.set_cons_succ]
      refine lt_val (v := ?_) 3 (some 90) rfl (by kernel_rfl) (by kernel_rfl) (by kernel_rfl) (fun _ _ _ h => h) rfl rfl (fun w => ?_) ?_
      rotate_left
      · (go_simp; try with_reducible rfl)
      try simp only [Act.put, List.setIfInBounds_toArray, List.set_cons_zero, List.set_cons_succ]
      refine lt_val (v := ?_) 4 (some 91) rfl (by kernel_rfl) (by kernel_rfl) (by kernel_rfl) (fun _ _ _ h => h) rfl rfl (fun w => ?_) ?_
      rotate_left
      · (go_simp; try with_reducible rfl)
      try simp only [Act.put, List.setIfInBounds_toArray, List.set_cons_zero, List.set_cons_succ]
      refine lt_one 5 rfl (by kernel_rfl) rfl (fun K hK => ?_)
      go_simp
      refine (HSB.out _ z _ D4 (HOY.out.far E4 (fun y hy => by simp at hy))).mono ?_
      rintro e x5 ⟨rfl, kx5⟩
      go_wp2_with fail
      refine hK.out _ _ (fun _ h => h.chg kx5 (by simp)) ?_
      replace hHeld := hHeld.chg kx5 (by simp)
      have C5 := C4.trans1 kx5
      have D5 := D4.trans1 kx5
      clear C4 D4 E4 kx5
      clear hK K
      try simp only [Act.put, List.setIfInBounds_toArray, List.set_cons_zero, List.set_cons_succ]
      refine lt_val (v := (.bool true)) 6 (some 93) rfl (by kernel_rfl) (by kernel_rfl) (by kernel_rfl) (fun _ _ _ h => h) rfl rfl (fun w => ?_) ?_
      · (go_simp; try with_reducible rfl)
      try simp only [Act.put, List.setIfInBounds_toArray, List.set_cons_zero, List.set_cons_succ]
      refine lt_val (v := (.bool true)) 7 (some 94) rfl (by kernel_rfl) (by kernel_rfl) (by kernel_rfl) (fun _ _ _ h => h) rfl rfl (fun w => ?_) ?_
      · (go_simp; try with_reducible rfl)
      try simp only [Act.put, List.setIfInBounds_toArray, List.set_cons_zero, List.set_cons_succ]
      refine lt_read (v := (.agg (msC mm))) 8 (some 95) rfl (by kernel_rfl) (by kernel_rfl) (by kernel_rfl) (by kernel_rfl) (fun _ _ _ h => h) rfl rfl (fun w hSw => ?_) hHeld ?_
      · exact exec_load_m w 35 _ rfl yb 0 rfl (msL mm) _ (ms_rg hSw 0 _ (fun j _ => by rw [Nat.zero_add])) Tryz.underlying35 rfl (by rw [msL_len]; exact msInfoW)
      try simp only [Act.put, List.setIfInBounds_toArray, List.set_cons_zero, List.set_cons_succ]
      refine lt_read (v := (.agg (msC mm))) 9 (some 96) rfl (by kernel_rfl) (by kernel_rfl) (by kernel_rfl) (by kernel_rfl) (fun _ _ _ h => h) rfl rfl (fun w hSw => ?_) hHeld ?_
      · exact exec_load_m w 35 _ rfl yb 0 rfl (msL mm) _ (ms_rg hSw 0 _ (fun j _ => by rw [Nat.zero_add])) Tryz.underlying35 rfl (by rw [msL_len]; exact msInfoW)
      try simp only [Act.put, List.setIfInBounds_toArray, List.set_cons_zero, List.set_cons_succ]
      refine lt_one 10 rfl (by kernel_rfl) rfl (fun K hK => ?_)
      go_simp
      refine (HUS1.out _ D5).mono ?_
      rintro e x6 ⟨u1, rfl, hu1, kx6⟩
      have HU1 : Hid (UsV mm N1 d1 hh1 bb1 T1 ft1 x5.heap.size x6 u1) := hu1
      clear hu1
      go_wp2_with fail
      refine hK.out _ _ (fun _ h => h.chg kx6 (by simp)) ?_
      replace hHeld := hHeld.chg kx6 (by simp)
      have C6 := C5.trans1 kx6
      have D6 := D5.trans1 kx6
      clear C5 D5 kx6
      clear hK K
      try simp only [Act.put, List.setIfInBounds_toArray, List.set_cons_zero, List.set_cons_succ]
      refine lt_one 11 rfl (by kernel_rfl) rfl (fun K hK => ?_)
      go_simp
      refine (HSM.out u1 _ _ D6 HU1.out).mono ?_
      rintro e x7 ⟨rfl, kx7⟩
      go_wp2_with fail
      refine hK.out _ _ (fun _ h => h.chg kx7 (by simp)) ?_
      replace hHeld := hHeld.chg kx7 (by simp)
      have C7 := C6.trans1 kx7
      clear C6 D6 kx7
      clear hK K
      try simp only [Act.put, List.setIfInBounds_toArray, List.set_cons_zero, List.set_cons_succ]
      refine lt_val (v := (.bool true)) 12 (some 99) rfl (by kernel_rfl) (by kernel_rfl) (by kernel_rfl) (fun _ _ _ h => h) rfl rfl (fun w => ?_) ?_
      · (go_simp; try with_reducible rfl)
      try simp only [Act.put, List.setIfInBounds_toArray, List.set_cons_zero, List.set_cons_succ]
      refine lt_val (v := ?_) 13 (some 4) rfl (by kernel_rfl) (by kernel_rfl) (by kernel_rfl) (fun _ _ _ h => h) rfl rfl (fun w => ?_) ?_
      rotate_left
      · (go_simp; try with_reducible rfl)
      try simp only [Act.put, List.setIfInBounds_toArray, List.set_cons_zero, List.set_cons_succ]
      refine lt_done (by kernel_rfl) ?_ _
      go_wp2_with fail
      go_ret
      exact ⟨rfl, C7⟩
  · have HGN : Hid (EnG m N d M) := hg
    have BM3 := BM2.chg k3 (by simp)
    have K3 := K2.trans1 k3
    have hn := enN_le2 m N d M hg
    have hk := hg.1
    unfold okKind at hk
    have hki : ((m.kind.toNat : Nat) : Int) = m.kind := by omega
    obtain ⟨g, o, c, rfl, hc, hc2, hB⟩ : ∃ g o c, v = .slice (some ⟨g, o, none⟩) (4 + 2 + 4 + enN m N M + 4) c ∧ 4 + 2 + 4 + enN m N M + 4 ≤ c ∧ c ≤ 9223372036854775807 ∧ Bs w3 g o (4 + 2 + 4 + enN m N M + 4) (frB m.kind.toNat (enN m N M) (enF m N d h b M ft)) := by
      rcases hO.sl with ⟨h0, _⟩ | q
      · omega
      · exact q
    rw [show 4 + 2 + 4 + enN m N M + 4 = 14 + enN m N M by omega] at hc hB ⊢
    have HDE : Hid (∀ W, Chg w3 W [] → Calls Tryz.prog 16 #[.slice (some ⟨g, o, none⟩) (14 + enN m N M) c] W fun e w' => ∃ v, e = .returned (.tuple #[v, .nilIface]) ∧ UsV m N d h b M ft W.heap.size w' v ∧ Chg W w' []) := fun W q => Decode_us g o c m N d h b M ft HGN.out HCB.out hc hc2 W (HG.out.chg (K3.trans1 q) (by simp) (by simp)) (hB.chg q (by simp))
    have HPK : Hid (∀ W, Chg w3 W [] → Calls Tryz.prog 18 #[.slice (some ⟨g, o, none⟩) (14 + enN m N M) c] W fun e w' => e = .returned (.tuple #[.int .i64 m.kind, .int .i64 (((14 + enN m N M : Nat)) : Int), .nilIface]) ∧ Chg W w' []) := fun W q => by
      have := Peek_en g o c m.kind.toNat (enN m N M) (enF m N d h b M ft) (by omega) hn hc hc2 W (hB.chg q (by simp))
      rwa [hki] at this
    obtain ⟨Z, hZ⟩ : ∃ Z, 14 + enN m N M = Z := ⟨_, rfl⟩
    rw [hZ] at HDE HPK ⊢
    have HZ0 : Hid (14 + enN m N M = Z) := hZ
    clear hg hn hk hki hO hc hc2 hB hZ BM2 K2 k3
    go_wp2_with fail
    refine (HDE.out w3 (Chg.refl _ _)).mono ?_
    rintro e w4 ⟨vd, rfl, hvd, k4⟩
    obtain ⟨m1, rfl, o1, o2⟩ := hvd.one
    have HVD : Hid (UsV m N d h b M ft w3.heap.size w4 (.agg (msC m1))) := hvd
    have HO1 : Hid (m1.list.oneCell' = true ∧ m1.text.oneCell' = true) := ⟨o1, o2⟩
    have BM4 := BM3.chg k4 (by simp)
    have K4 := K3.trans1 k4
    have D4 : Chg w3 w4 [] := k4
    clear hvd o1 o2 BM3 K3 k4
    go_wp2_with (first
      | (refine store_w BY rfl 35 _ _ (msC m1) rfl rfl rfl (by rw [msC_size]; exact msInfoW) (by rw [msC_size, msC_size]) (ms_oneC _ HO1.out.1 HO1.out.2) ?_; intro w6 BY6 k6)
      | (with_reducible refine alloc_w rfl 35 rfl (.agg (msC (ms0 0))) zeroMsg (msC (ms0 0)) rfl ?_; intro nb w5 hnb BY k5))
    have k46 : Chg w4 w6 [] := k5.new k6 hnb
    have BM6 := BM4.chg k46 (by simp)
    have K6 := K4.trans1 k46
    have D6 := D4.trans1 k46
    have HVD6 : Hid (UsV m N d h b M ft w3.heap.size w6 (.agg (msC m1))) := HVD.out.far k46 (fun y hy => by simp at hy) (Nat.le_refl _)
    clear BM4 K4 D4 k5 k6 k46 BY hnb HVD
    refine (HPK.out w6 D6).mono ?_
    rintro e w7 ⟨rfl, k7⟩
    have BM7 := BM6.chg k7 (by simp)
    have BY7 := BY6.chg k7 (by simp)
    have K7 := K6.trans1 k7
    have HVD7 : Hid (UsV m N d h b M ft w3.heap.size w7 (.agg (msC m1))) := HVD6.out.far k7 (fun y hy => by simp at hy) (Nat.le_refl _)
    clear BM6 BY6 K6 D6 k7 HVD6
    go_wp2_with fail
    have hHeld : Blk w7.drew mb (msC m) 35 ∧ Blk w7.drew nb (msC m1) 35 := ⟨BM7.drew, BY7.drew⟩
    have C7 := K7.drew
    have E7 : Chg w7 w7.drew [] := (Chg.refl w7 []).drew
    refine lt_begin (fun w' => Blk w' mb (msC m) 35 ∧ Blk w' nb (msC m1) 35) (fun _ => false) (by kernel_rfl) ?_
    obtain ⟨z, hz⟩ : ∃ z, z = w7.drew := ⟨_, rfl⟩
    rw [← hz] at hHeld C7 E7 ⊢
    clear hz BM7 BY7 K7
    refine lt_val (v := ?_) 0 (some 35) rfl (by kernel_rfl) (by kernel_rfl) (by kernel_rfl) (fun _ _ _ h => h) rfl rfl (fun w => ?_) ?_
    rotate_left
    · (go_simp; try with_reducible rfl)
    try simp only [Act.put, List.setIfInBounds_toArray, List.set_cons_zero, List.set_cons_succ]
    refine lt_val (v := (.bool false)) 1 (some 36) rfl (by kernel_rfl) (by kernel_rfl) (by kernel_rfl) (fun _ _ _ h => h) rfl rfl (fun w => ?_) ?_
    · (go_simp; try with_reducible rfl)
    try simp only [Act.put, List.setIfInBounds_toArray, List.set_cons_zero, List.set_cons_succ]
    refine lt_val (v := (.bool false)) 2 (some 37) rfl (by kernel_rfl) (by kernel_rfl) (by kernel_rfl) (fun _ _ _ h => h) rfl rfl (fun w => ?_) ?_
    · (go_simp; try with_reducible rfl)
    try simp only [Act.put, List.setIfInBounds_toArray, List.set_cons_zero, List.set_cons_succ]
    refine lt_val (v := ?_) 3 (some 38) rfl (by kernel_rfl) (by kernel_rfl) (by kernel_rfl) (fun _ _ _ h => h) rfl rfl (fun w => ?_) ?_
    rotate_left
    · (go_simp; try with_reducible rfl)
    try simp only [Act.put, List.setIfInBounds_toArray, List.set_cons_zero, List.set_cons_succ]
    refine lt_val (v := (.bool false)) 4 (some 39) rfl (by kernel_rfl) (by kernel_rfl) (by kernel_rfl) (fun _ _ _ h => h) rfl rfl (fun w => ?_) ?_
    · (go_simp; try with_reducible rfl)
    try simp only [Act.put, List.setIfInBounds_toArray, List.set_cons_zero, List.set_cons_succ]
    refine lt_val (v := (.bool false)) 5 (some 40) rfl (by kernel_rfl) (by kernel_rfl) (by kernel_rfl) (fun _ _ _ h => h) rfl rfl (fun w => ?_) ?_
    · (go_simp; try with_reducible rfl)
    try simp only [Act.put, List.setIfInBounds_toArray, List.set_cons_zero, List.set_cons_succ]
    refine lt_val (v := (.bool false)) 6 (some 41) rfl (by kernel_rfl) (by kernel_rfl) (by kernel_rfl) (fun _ _ _ h => h) rfl rfl (fun w => ?_) ?_
    · (go_simp; try with_reducible rfl)
    try simp only [Act.put, List.setIfInBounds_toArray, List.set_cons_zero, List.set_cons_succ]
    refine lt_read (v := (.agg (msC m1))) 7 (some 42) rfl (by kernel_rfl) (by kernel_rfl) (by kernel_rfl) (by kernel_rfl) (fun _ _ _ h => h) rfl rfl (fun w hSw => ?_) hHeld ?_
    · exact exec_load_m w 35 _ rfl nb 0 rfl (msL m1) _ (ms_rg hSw.2 0 _ (fun j _ => by rw [Nat.zero_add])) Tryz.underlying35 rfl (by rw [msL_len]; exact msInfoW)
    try simp only [Act.put, List.setIfInBounds_toArray, List.set_cons_zero, List.set_cons_succ]
    refine lt_read (v := (.agg (msC m))) 8 (some 43) rfl (by kernel_rfl) (by kernel_rfl) (by kernel_rfl) (by kernel_rfl) (fun _ _ _ h => h) rfl rfl (fun w hSw => ?_) hHeld ?_
    · exact exec_load_m w 35 _ rfl mb 0 rfl (msL m) _ (ms_rg hSw.1 0 _ (fun j _ => by rw [Nat.zero_add])) Tryz.underlying35 rfl (by rw [msL_len]; exact msInfoW)
    try simp only [Act.put, List.setIfInBounds_toArray, List.set_cons_zero, List.set_cons_succ]
    refine lt_one 9 rfl (by kernel_rfl) rfl (fun K hK => ?_)
    go_simp
    refine (HUS.out HGN.out _ C7).mono ?_
    rintro e w8 ⟨u1, rfl, hu1, k8⟩
    have HU1 : Hid (UsV m N d h b M ft z.heap.size w8 u1) := hu1
    have HVD8 : Hid (UsV m N d h b M ft w3.heap.size w8 (.agg (msC m1))) := (HVD7.out.far E7 (fun y hy => by simp at hy) (Nat.le_refl _)).far k8 (fun y hy => by simp at hy) (Nat.le_refl _)
    clear hu1
    go_wp2_with fail
    refine hK.out _ _ (fun _ h => ⟨h.1.chg k8 (by simp), h.2.chg k8 (by simp)⟩) ?_
    replace hHeld := And.intro (hHeld.1.chg k8 (by simp)) (hHeld.2.chg k8 (by simp))
    have C8 := C7.trans1 k8
    clear C7 E7 k8
    clear hK K
    try simp only [Act.put, List.setIfInBounds_toArray, List.set_cons_zero, List.set_cons_succ]
    refine lt_one 10 rfl (by kernel_rfl) rfl (fun K hK => ?_)
    go_simp
    refine (Same_one m N d h b M ft HGN.out _ u1 w8 _ _ HVD8.out HU1.out).mono ?_
    rintro e w9 ⟨rfl, k9⟩
    go_wp2_with fail
    refine hK.out _ _ (fun _ h => ⟨h.1.chg k9 (by simp), h.2.chg k9 (by simp)⟩) ?_
    replace hHeld := And.intro (hHeld.1.chg k9 (by simp)) (hHeld.2.chg k9 (by simp))
    have C9 := C8.trans1 k9
    clear C8 k9
    clear hK K
    try simp only [Act.put, List.setIfInBounds_toArray, List.set_cons_zero, List.set_cons_succ]
    refine lt_val (v := (.bool false)) 11 (some 46) rfl (by kernel_rfl) (by kernel_rfl) (by kernel_rfl) (fun _ _ _ h => h) rfl rfl (fun w => ?_) ?_
    · (go_simp; try with_reducible rfl)
    try simp only [Act.put, List.setIfInBounds_toArray, List.set_cons_zero, List.set_cons_succ]
    refine lt_val (v := (.bool false)) 12 (some 47) rfl (by kernel_rfl) (by kernel_rfl) (by kernel_rfl) (fun _ _ _ h => h) rfl rfl (fun w => ?_) ?_
    · (go_simp; try with_reducible rfl)
    try simp only [Act.put, List.setIfInBounds_toArray, List.set_cons_zero, List.set_cons_succ]
    refine lt_val (v := (.bool false)) 13 (some 48) rfl (by kernel_rfl) (by kernel_rfl) (by kernel_rfl) (fun _ _ _ h => h) rfl rfl (fun w => ?_) ?_
    · (go_simp; try with_reducible rfl)
    try simp only [Act.put, List.setIfInBounds_toArray, List.set_cons_zero, List.set_cons_succ]
    refine lt_val (v := ?_) 14 (some 49) rfl (by kernel_rfl) (by kernel_rfl) (by kernel_rfl) (fun _ _ _ h => h) rfl rfl (fun w => ?_) ?_
    rotate_left
    · (go_simp; try with_reducible rfl)
    try simp only [Act.put, List.setIfInBounds_toArray, List.set_cons_zero, List.set_cons_succ]
    refine lt_val (v := ?_) 15 (some 50) rfl (by kernel_rfl) (by kernel_rfl) (by kernel_rfl) (fun _ _ _ h => h) rfl rfl (fun w => ?_) ?_
    rotate_left
    · (go_simp; try with_reducible rfl)
    try simp only [Act.put, List.setIfInBounds_toArray, List.set_cons_zero, List.set_cons_succ]
    refine lt_read (v := (.int .i64 m.kind)) 16 (some 51) rfl (by kernel_rfl) (by kernel_rfl) (by kernel_rfl) (by kernel_rfl) (fun _ _ _ h => h) rfl rfl (fun w hSw => ?_) hHeld ?_
    · have q0 := ms_at hSw.1 0 _ (ms_kind m); (go_simp; try with_reducible rfl)
    try simp only [Act.put, List.setIfInBounds_toArray, List.set_cons_zero, List.set_cons_succ]
    refine lt_val (v := (.bool false)) 17 (some 52) rfl (by kernel_rfl) (by kernel_rfl) (by kernel_rfl) (fun _ _ _ h => h) rfl rfl (fun w => ?_) ?_
    · (go_simp; try with_reducible rfl)
    try simp only [Act.put, List.setIfInBounds_toArray, List.set_cons_zero, List.set_cons_succ]
    refine lt_val (v := (.bool false)) 18 (some 53) rfl (by kernel_rfl) (by kernel_rfl) (by kernel_rfl) (fun _ _ _ h => h) rfl rfl (fun w => ?_) ?_
    · (go_simp; try with_reducible rfl)
    try simp only [Act.put, List.setIfInBounds_toArray, List.set_cons_zero, List.set_cons_succ]
    refine lt_val (v := (.bool false)) 19 (some 54) rfl (by kernel_rfl) (by kernel_rfl) (by kernel_rfl) (fun _ _ _ h => h) rfl rfl (fun w => ?_) ?_
    · (go_simp; try with_reducible rfl)
    try simp only [Act.put, List.setIfInBounds_toArray, List.set_cons_zero, List.set_cons_succ]
    refine lt_val (v := ?_) 20 (some 55) rfl (by kernel_rfl) (by kernel_rfl) (by kernel_rfl) (fun _ _ _ h => h) rfl rfl (fun w => ?_) ?_
    rotate_left
    · (go_simp; try with_reducible rfl)
    try simp only [Act.put, List.setIfInBounds_toArray, List.set_cons_zero, List.set_cons_succ]
    refine lt_val (v := ?_) 21 (some 56) rfl (by kernel_rfl) (by kernel_rfl) (by kernel_rfl) (fun _ _ _ h => h) rfl rfl (fun w => ?_) ?_
    rotate_left
    · (go_simp; try with_reducible rfl)
    try simp only [Act.put, List.setIfInBounds_toArray, List.set_cons_zero, List.set_cons_succ]
    refine lt_val (v := ?_) 22 (some 57) rfl (by kernel_rfl) (by kernel_rfl) (by kernel_rfl) (fun _ _ _ h => h) rfl rfl (fun w => ?_) ?_
    rotate_left
    · (go_simp; try with_reducible rfl)
    try simp only [Act.put, List.setIfInBounds_toArray, List.set_cons_zero, List.set_cons_succ]
    refine lt_val (v := (.bool false)) 23 (some 58) rfl (by kernel_rfl) (by kernel_rfl) (by kernel_rfl) (fun _ _ _ h => h) rfl rfl (fun w => ?_) ?_
    · (go_simp; try with_reducible rfl)
    try simp only [Act.put, List.setIfInBounds_toArray, List.set_cons_zero, List.set_cons_succ]
    refine lt_val (v := (.bool false)) 24 (some 59) rfl (by kernel_rfl) (by kernel_rfl) (by kernel_rfl) (fun _ _ _ h => h) rfl rfl (fun w => ?_) ?_
    · (go_simp; try with_reducible rfl)
    try simp only [Act.put, List.setIfInBounds_toArray, List.set_cons_zero, List.set_cons_succ]
    refine lt_done (by kernel_rfl) ?_ _
    clear hHeld
    go_wp2_with fail
    refine (HDB.out w9 C9).mono ?_
    rintro e x1 ⟨⟨fv, s1, a1, y1, rfl, hft, hnm⟩ | ⟨mm, N1, d1, hh1, bb1, T1, ft1, hbk, hcl, hsl, rfl⟩, kx1⟩
    · have X1 := C9.trans1 kx1
      obtain ⟨gq, rfl, hgq, BQ⟩ := hft
      have HNF : Hid (NmF s1 y1) := hnm
      clear C9 kx1 hnm hgq
      go_wp2_with (first
        | (refine store_w BY rfl 35 _ _ (msC (ms0 0)) rfl rfl rfl (by rw [msC_size]; exact msInfoW) rfl (ms_oneC _ rfl rfl) ?_; intro x3 BY3 kx3)
        | (with_reducible refine alloc_w rfl 35 rfl (.agg (msC (ms0 0))) zeroMsg (msC (ms0 0)) rfl ?_; intro yb x2 hyb BY kx2))
      have X3 := X1.trans1 (kx2.new kx3 hyb)
      have BQ3 := BQ.chg (kx2.new kx3 hyb) (by simp)
      clear X1 BQ kx2 kx3 BY hyb
      refine (HNM.out x3 _ s1 a1 y1 0 X3 ⟨gq, rfl, Nat.zero_le _, BQ3⟩ HNF.out).mono ?_
      rintro e x4 ⟨rfl, kx4⟩
      have X4 := X3.trans1 kx4
      have BY4 := BY3.chg kx4 (by simp)
      clear X3 BY3 kx4 BQ3
      go_wp2_with (first
        | (refine load_gm (by rfl) 35 (.tmp 12) rfl yb 0 rfl (msL (ms0 0)) (ms_rg BY4 0 _ (fun j _ => by rw [Nat.zero_add])) Tryz.underlying35 rfl (by rw [msL_len]; exact msInfoW) ?_)
        | (refine build_g (by rfl) 35 rfl (msC (ms0 0)) builtM0b ?_))
      refine (Same0b x4).mono ?_
      rintro e x5 ⟨rfl, kx5⟩
      go_wp2_with fail
      go_ret
      exact ⟨rfl, X4.trans1 kx5⟩
    · obtain ⟨hg1, hmb1, hn1, hfr1, hse1⟩ := hbk
      have X1 := C9.trans1 kx1
      have HCL : Hid (∀ W, Chg x1 W [] → Cl W mm.list N1 d1 hh1 bb1) := fun W q => hcl.chg q
      have HSL : Hid (∀ W, Chg x1 W [] → Sl W mm.text T1 ft1) := fun W q => hsl.chg q (by simp [Off])
      have HEN1 : Hid (∀ W, Chg x1 W [] → Calls Tryz.prog 8 #[.agg (msC mm)] W fun e w' => EnQ2 mm N1 d1 hh1 bb1 T1 ft1 W e w') := fun W q => Encode_s mm N1 d1 hh1 bb1 T1 ft1 hmb1 W (HG.out.chg (X1.trans1 q) (by simp) (by simp)) (hcl.chg q) (hsl.chg q (by simp [Off]))
      have HUS1 : Hid (∀ W, Chg x1 W [] → Calls Tryz.prog 29 #[.agg (msC mm)] W fun e w' => ∃ v, e = .returned v ∧ UsV mm N1 d1 hh1 bb1 T1 ft1 W.heap.size w' v ∧ Chg W w' []) := fun W q => used_u mm N1 d1 hh1 bb1 T1 ft1 hg1 W (hcl.chg q) (hsl.chg q (by simp [Off]))
      have HSM : Hid (∀ u W B, Chg x1 W [] → UsV mm N1 d1 hh1 bb1 T1 ft1 B W u → Calls Tryz.prog 20 #[.agg (msC mm), u] W fun e w' => e = .returned (.bool true) ∧ Chg W w' []) := fun u W B q hu => by
        obtain ⟨vl, vt, rfl, u2, u3, u4⟩ := hu
        refine (SameMsg_w mm N1 d1 hh1 bb1 T1 ft1 { usM mm with list := vl, text := vt } (uK mm N1) d1 hh1 bb1 (uK mm T1) ft1 W (HCL.out W q) (HSL.out W q).zb ⟨u2.rl, u3⟩ u4.sl.zb).mono ?_
        rintro e w' ⟨rfl, kk⟩
        exact ⟨congrArg (fun q => Ending.returned (.bool q)) hse1, kk⟩
      have HSB : Hid (∀ y W B, Chg x1 W [] → Own W B y n1 (frB mm.kind.toNat (enN mm N1 T1) (enF mm N1 d1 hh1 bb1 T1 ft1)) → Calls Tryz.prog 11 #[y, .slice p1 n1 c1] W fun e w' => e = .returned (.bool true) ∧ Chg W w' []) := fun y W B q hy => by
        refine (SameBytes_w y n1 _ (.slice p1 n1 c1) n1 f1 W hy.sl.zb (HS1.out W (X1.trans1 q)).zb).mono ?_
        rintro e w' ⟨rfl, kk⟩
        exact ⟨by rw [(eqB_iff _ _ _ _).2 ⟨rfl, hfr1⟩], kk⟩
      have HG1 : Hid (EnG mm N1 d1 T1 ∧ n1 = 14 + enN mm N1 T1) := ⟨hg1, hn1⟩
      have HO1 : Hid (mm.list.oneCell' = true ∧ mm.text.oneCell' = true) := by
        obtain ⟨p, c, e1, _⟩ := hcl.1.form
        obtain ⟨p', c', e2⟩ := slFm hsl
        exact ⟨by rw [e1]; rfl, by rw [e2]; rfl⟩
      clear C9 kx1 hg1 hmb1 hn1 hfr1 hse1 hcl hsl
      go_wp2_with (first
        | (refine store_w BY rfl 35 _ _ (msC mm) rfl rfl rfl (by rw [msC_size]; exact msInfoW) (by rw [msC_size, msC_size]) (ms_oneC _ HO1.out.1 HO1.out.2) ?_; intro x3 BY3 kx3)
        | (with_reducible refine alloc_w rfl 35 rfl (.agg (msC (ms0 0))) zeroMsg (msC (ms0 0)) rfl ?_; intro yb x2 hyb BY kx2)
        | (refine wpList_load_row rfl 35 _ rfl yb rfl 35 _ (0, 0) _ BY3 Tryz.underlying35 rfl (by rw [msC_size]; exact msInfoW) ?_))
      have X3 := X1.trans1 (kx2.new kx3 hyb)
      have Y3 : Chg x1 x3 [] := kx2.new kx3 hyb
      clear X1 kx2 kx3 BY hyb
      refine (HEN1.out x3 Y3).mono ?_
      rintro e x4 (⟨hgn, _⟩ | ⟨_, vy, rfl, hOy, kx4⟩)
      · exact absurd HG1.out.1 hgn
      obtain ⟨py, cy, hvy⟩ := slFm hOy.sl
      subst hvy
      rw [show 4 + 2 + 4 + enN mm N1 T1 + 4 = n1 by have := HG1.out.2; omega] at hOy ⊢
      have HOY : Hid (Own x4 x3.heap.size (.slice py n1 cy) n1 (frB mm.kind.toNat (enN mm N1 T1) (enF mm N1 d1 hh1 bb1 T1 ft1))) := hOy
      have BY4 := BY3.chg kx4 (by simp)
      have X4 := X3.trans1 kx4
      have Y4 := Y3.trans1 kx4
      clear hOy BY3 X3 Y3 kx4
      go_wp2_with fail
      have hHeld : Blk x4.drew yb (msC mm) 35 := BY4.drew
      have C4 := X4.drew
      have D4 := Y4.drew
      have E4 : Chg x4 x4.drew [] := (Chg.refl x4 []).drew
      refine lt_begin (fun w' => Blk w' yb (msC mm) 35) (fun _ => false) (by kernel_rfl) ?_
      obtain ⟨z, hz⟩ : ∃ z, z = x4.drew := ⟨_, rfl⟩
      rw [← hz] at hHeld C4 D4 E4 ⊢
      clear hz BY4 X4 Y4
      refine lt_val (v := ?_) 0 (some 87) rfl (by kernel_rfl) (by kernel_rfl) (by kernel_rfl) (fun _ _ _ h => h) rfl rfl (fun w => ?_) ?_
      rotate_left
      · (go_simp; try with_reducible rfl)
      try simp only [Act.put, List.setIfInBounds_toArray, List.set_cons_zero, List.set_cons_succ]
      refine lt_val (v := (.bool true)) 1 (some 88) rfl (by kernel_rfl) (by kernel_rfl) (by kernel_rfl) (fun _ _ _ h => h) rfl rfl (fun w => ?_) ?_
      · (go_simp; try with_reducible rfl)
      try simp only [Act.put, List.setIfInBounds_toArray, List.set_cons_zero, List.set_cons_succ]
      refine lt_val (v := (.bool true)) 2 (some 89) rfl (by kernel_rfl) (by kernel_rfl) (by kernel_rfl) (fun _ _ _ h => h) rfl rfl (fun w => ?_) ?_
      · (go_simp; try with_reducible rfl)
      try simp only [Act.put, List.setIfInBounds_toArray, List.set_cons_zero, List.set_cons_succ]
      refine lt_val (v := ?_) 3 (some 90) rfl (by kernel_rfl) (by kernel_rfl) (by kernel_rfl) (fun _ _ _ h => h) rfl rfl (fun w => ?_) ?_
      rotate_left
      · (go_simp; try with_reducible rfl)
      try simp only [Act.put, List.setIfInBounds_toArray, List.set_cons_zero, List.set_cons_succ]
      refine lt_val (v := ?_) 4 (some 91) rfl (by kernel_rfl) (by kernel_rfl) (by kernel_rfl) (fun _ _ _ h => h) rfl rfl (fun w => ?_) ?_
      rotate_left
      · (go_simp; try with_reducible rfl)
      try simp only [Act.put, List.setIfInBounds_toArray, List.set_cons_zero, List.set_cons_succ]
      refine lt_one 5 rfl (by kernel_rfl) rfl (fun K hK => ?_)
      go_simp
      refine (HSB.out _ z _ D4 (HOY.out.far E4 (fun y hy => by simp at hy))).mono ?_
      rintro e x5 ⟨rfl, kx5⟩
      go_wp2_with fail
      refine hK.out _ _ (fun _ h => h.chg kx5 (by simp)) ?_
      replace hHeld := hHeld.chg kx5 (by simp)
      have C5 := C4.trans1 kx5
      have D5 := D4.trans1 kx5
      clear C4 D4 E4 kx5
      clear hK K
      try simp only [Act.put, List.setIfInBounds_toArray, List.set_cons_zero, List.set_cons_succ]
      refine lt_val (v := (.bool true)) 6 (some 93) rfl (by kernel_rfl) (by kernel_rfl) (by kernel_rfl) (fun _ _ _ h => h) rfl rfl (fun w => ?_) ?_
      · (go_simp; try with_reducible rfl)
      try simp only [Act.put, List.setIfInBounds_toArray, List.set_cons_zero, List.set_cons_succ]
      refine lt_val (v := (.bool true)) 7 (some 94) rfl (by kernel_rfl) (by kernel_rfl) (by kernel_rfl) (fun _ _ _ h => h) rfl rfl (fun w => ?_) ?_
      · (go_simp; try with_reducible rfl)
      try simp only [Act.put, List.setIfInBounds_toArray, List.set_cons_zero, List.set_cons_succ]
      refine lt_read (v := (.agg (msC mm))) 8 (some 95) rfl (by kernel_rfl) (by kernel_rfl) (by kernel_rfl) (by kernel_rfl) (fun _ _ _ h => h) rfl rfl (fun w hSw => ?_) hHeld ?_
      · exact exec_load_m w 35 _ rfl yb 0 rfl (msL mm) _ (ms_rg hSw 0 _ (fun j _ => by rw [Nat.zero_add])) Tryz.underlying35 rfl (by rw [msL_len]; exact msInfoW)
      try simp only [Act.put, List.setIfInBounds_toArray, List.set_cons_zero, List.set_cons_succ]
      refine lt_read (v := (.agg (msC mm))) 9 (some 96) rfl (by kernel_rfl) (by kernel_rfl) (by kernel_rfl) (by kernel_rfl) (fun _ _ _ h => h) rfl rfl (fun w hSw => ?_) hHeld ?_
      · exact exec_load_m w 35 _ rfl yb 0 rfl (msL mm) _ (ms_rg hSw 0 _ (fun j _ => by rw [Nat.zero_add])) Tryz.underlying35 rfl (by rw [msL_len]; exact msInfoW)
      try simp only [Act.put, List.setIfInBounds_toArray, List.set_cons_zero, List.set_cons_succ]
      refine lt_one 10 rfl (by kernel_rfl) rfl (fun K hK => ?_)
      go_simp
      refine (HUS1.out _ D5).mono ?_
      rintro e x6 ⟨u1, rfl, hu1, kx6⟩
      have HU1 : Hid (UsV mm N1 d1 hh1 bb1 T1 ft1 x5.heap.size x6 u1) := hu1
      clear hu1
      go_wp2_with fail
      refine hK.out _ _ (fun _ h => h.chg kx6 (by simp)) ?_
      replace hHeld := hHeld.chg kx6 (by simp)
      have C6 := C5.trans1 kx6
      have D6 := D5.trans1 kx6
      clear C5 D5 kx6
      clear hK K
      try simp only [Act.put, List.setIfInBounds_toArray, List.set_cons_zero, List.set_cons_succ]
      refine lt_one 11 rfl (by kernel_rfl) rfl (fun K hK => ?_)
      go_simp
      refine (HSM.out u1 _ _ D6 HU1.out).mono ?_
      rintro e x7 ⟨rfl, kx7⟩
      go_wp2_with fail
      refine hK.out _ _ (fun _ h => h.chg kx7 (by simp)) ?_
      replace hHeld := hHeld.chg kx7 (by simp)
      have C7 := C6.trans1 kx7
      clear C6 D6 kx7
      clear hK K
      try simp only [Act.put, List.setIfInBounds_toArray, List.set_cons_zero, List.set_cons_succ]
      refine lt_val (v := (.bool true)) 12 (some 99) rfl (by kernel_rfl) (by kernel_rfl) (by kernel_rfl) (fun _ _ _ h => h) rfl rfl (fun w => ?_) ?_
      · (go_simp; try with_reducible rfl)
      try simp only [Act.put, List.setIfInBounds_toArray, List.set_cons_zero, List.set_cons_succ]
      refine lt_val (v := ?_) 13 (some 4) rfl (by kernel_rfl) (by kernel_rfl) (by kernel_rfl) (fun _ _ _ h => h) rfl rfl (fun w => ?_) ?_
      rotate_left
      · (go_simp; try with_reducible rfl)
      try simp only [Act.put, List.setIfInBounds_toArray, List.set_cons_zero, List.set_cons_succ]
      refine lt_done (by kernel_rfl) ?_ _
      go_wp2_with fail
      go_ret
      exact ⟨rfl, C7⟩
end Go.Proofs.YtgfeopingompdaaGreatDoor
