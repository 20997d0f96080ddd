/- ShamirOnes: the walk. -/
import Derived.Test.YtcagkcglmcafgaaGreatWtL
import Derived.Test.YtcagkcglmcafgaaGreatMgI
import Derived.Test.YtcagkcglmcafgaaGreatMgE
import Derived.Test.YtcagkcglmcafgaaGreatAddsWalk
set_option linter.unusedVariables false
set_option linter.unusedSimpArgs false
set_option linter.unnecessarySimpa false
namespace Go.Proofs.YtcagkcglmcafgaaGreat
open Go.RowKit N

theorem load_gd {w : World} {ops : Array Oper} {rest : List Oper} {op : Oper} {a : Act} {Q : Exit → Act → World → Prop} {b : Nat} {X : Int} (hB : Blk w b (feC X) 24) (x : Operand) (hw : Region.wanted op (yielded ops a.tmps) = true) (ho : op.op = .load 24 x) (hx : a.eval x = .pointer (some ⟨b, 0, none⟩))
    (h : wpList Tryz.prog ops Q rest (a.put op.dst (fe X)) w) : wpList Tryz.prog ops Q (op :: rest) a w :=
  wpList_step fun K hK => by rw [if_pos hw]; exact wp_load_mid 24 x ho b 0 hx (feL X) _ (blk_range hB) Tryz.underlying24 rfl feInfo (hK _ _ h)
theorem z32_as {v : Nat → Int} : z32 = feC (asum v 0) := z32_fe
theorem idR_wO (f : Nat → Int) (N : Nat) : IntKind.i64.wrap (idR f N) = idR f N := by
  have hv : ∀ k, idE f k = 0 ∨ idE f k = 4 ∨ idE f k = 5 := fun k => by
    induction k with
    | zero => exact Or.inl rfl
    | succ k ih =>
      unfold idE
      split
      · split
        · split
          · exact Or.inr (Or.inr rfl)
          · exact Or.inl rfl
        · exact Or.inr (Or.inl rfl)
      · exact ih
  have h : idR f N = 0 ∨ idR f N = 4 ∨ idR f N = 5 ∨ idR f N = 8 := by
    unfold idR
    split
    · exact Or.inr (Or.inr (Or.inr rfl))
    · rcases hv N with h | h | h <;> simp [h]
  rw [IntKind.wrap_i64]
  omega
set_option maxHeartbeats 64000000 in
set_option maxRecDepth 100000 in
theorem ones_walk (vs : Value) (N : Nat) (d y : Nat → Int) (x : Int) (rx : R256 x) (hN : N ≤ 4398046511000) (w : World) (hLs : Hl w vs N d y) :
    Calls Tryz.prog 3 #[vs, fe x] w fun e w' => e = .returned (.bool true) ∧ Chg w w' [] := by
  have HLs : Hid (Hl w vs N d y) := hLs
  obtain ⟨ps, cs, rfl, hps⟩ := hLs.1.form
  have HP : Hid (∀ i, i < N → ∃ g o, ps = some ⟨g, o, none⟩ ∧ g < w.heap.size ∧ w.rangeAt g (o + i * 33) (hF d y i)) := hps
  have HRy : Hid (∀ j, j < N → R256 (y j)) := hLs.2
  have HRx : Hid (R256 x) := rx
  have HB : Hid (N ≤ 4398046511000) := hN
  have HB1 : Hid _ := built_1
  have HQ10 : Hid (eqf 1 0 = false) := by show eqf 1 0 = false; decide
  have HQ01 : Hid (eqf 0 1 = false) := by show eqf 0 1 = false; decide
  obtain ⟨ii, hii, hizz, hiss, _⟩ := intRowS
  clear hLs rx hN hps
  go_enter Tryz.func3, Tryz.ntmps3
  go_wp2_with (refine box_w rfl 24 _ rfl (feC x) rfl ?_; intro xb w1 hxb Bx k1)
  refine (alive_s w1).mono ?_
  rintro e w2 ⟨rfl, k2⟩
  have C : Chg w w2 [] := k1.trans1 k2
  replace Bx := Bx.chg k2 (by simp)
  clear k1 k2 hxb
  have O0 : Oi w2 w.heap.size (.slice none 0 0) (idL d 0) := Oi.nil _ _
  go_wp2_with fail
  go_loopw [5, 6] (fun t5 t6 wr => ∃ i : Nat, i ≤ N ∧ t6 = .int .i64 (i : Int) ∧ Oi wr w.heap.size t5 (idL d i) ∧ Chg w wr [] ∧ Blk wr xb (feC x) 24) (fun _ t6 _ => (N - intOf t6).toNat)
  case atStart => exact ⟨0, Nat.zero_le _, rfl, O0, C, Bx⟩
  case round =>
    clear O0 C Bx
    obtain ⟨i, hi, rfl, O, C, Bx⟩ := hrel
    by_cases h : i < N
    · have hI : (i : Int) < (N : Int) := by omega
      have hI0 : (0 : Int) ≤ (i : Int) := by omega
      have e1 : IntKind.i64.wrap ((i : Int) + 1) = (i : Int) + 1 := by have := HB.out; rw [IntKind.wrap_i64]; omega
      have HMs : Hid _ := mN N i h
      have HI : Hid (i < N) := h
      have HNi : Hid (i ≤ 4398046511000) := by have := HB.out; show i ≤ 4398046511000; omega
      obtain ⟨gp, o, rfl, hg, hF⟩ := HP.out i h
      have hF' : wr.rangeAt gp (o + i * 33) (.int .i64 (d i) :: feL (y i)) := rangeAt_chg hF hg C (by simp)
      have hID : wr.cell? ⟨gp, o + i * 33, none⟩ = some (.int .i64 (d i)) := by have := hF' 0 _ rfl; rwa [Nat.add_zero] at this
      have HOB5 : Hid (∀ k ∈ ob u5, w.heap.size ≤ k) := fun k hk => (ob_own O k hk).1
      have HX5 : Hid (¬ xb ∈ ob u5) := fun hx => by
        obtain ⟨D, q⟩ := ownsRow_blkS O.1 hx
        exact absurd (blk_ty q Bx) (by decide)
      have HCz0 : Hid (w.heap.size ≤ wr.heap.size) := C.size
      clear hF hg h hi hF'
      go_wp2_with (first
        | (with_reducible refine bslice_w ?_ 26 3 (.tmp 34) ?_ (.int .i64 (d i)) ?_ #[.int .i64 (d i)] ii (.int .i64 0) Tryz.underlying26 hii hizz 1 hiss ?_ ?_ (fill_int (d i)) ?_
           · rfl
           · rfl
           · rfl
           · omega
           · omega
           intro gx w2 hgx Bg k2)
        | (with_reducible refine append_oi ?_ (.tmp 29) (.tmp 35) ?_ w.heap.size u5 gx (idL d i) (d i) ?_ ?_ (O.chg k2) Bg ?_ ?_ ?_
           · rfl
           · rfl
           · rfl
           · rfl
           · rw [idL_len]; have := HNi.out; omega
           · have := HCz0.out; have := k2.size; omega
           intro v7 wq O7 k7))
      replace C := (C.trans1 k2).trans k7 (fun i hi => Or.inr (HOB5.out i hi))
      replace Bx := (Bx.chg k2 (by simp)).chg k7 HX5.out
      rw [← idL_s] at O7
      clear O k2 k7 Bg hgx hID
      go_roundw
      case rel => exact ⟨i + 1, HI.out, by go_num, O7, C, Bx⟩
      case measure => exact HMs.out
    · obtain rfl : N = i := by omega
      have hI : ¬ (N : Int) < (N : Int) := by omega
      obtain ⟨pi, ci, rfl⟩ := id_form O
      have HIl0 : Hid (Il wr (.slice pi N ci) N d) := O.il
      clear h hi O
      obtain ⟨wr1, rfl⟩ : ∃ z, z = wr := ⟨wr, rfl⟩
      go_wp2_with fail
      refine (Weights_s _ N d (by have := HB.out; omega) wr1 HIl0.out).mono ?_
      rintro e w3 ⟨hW, k3⟩
      have hIP := Interpolate_s _ N d y (by have := HB.out; omega) 0 r256_c0 w3 (HLs.out.chg (C.trans1 k3))
      obtain ⟨E, hE⟩ : ∃ E, idR d N = E := ⟨_, rfl⟩
      have HE : Hid (idR d N = E) := hE
      unfold WtP at hW
      rw [hE] at hW hIP
      by_cases h0 : E = 0
      · subst h0
        rcases hW with ⟨hb, _⟩ | ⟨_, gw, hgw, rfl, Sw⟩
        · exact absurd rfl hb
        have HIE : Hid (idE d N = 0) := (idR_zero HE.out).1
        have HN : Hid (0 < N ∧ N ≤ 255) := ⟨(idR_zero HE.out).2, idE_len HIE.out⟩
        have HD : Hid (∀ i, i < N → 1 ≤ d i ∧ d i ≤ 255) := (idE_zero HIE.out).1
        rw [show ipR 0 d y N = wsum 0 d y N N by unfold ipR; rw [if_pos HE.out]] at hIP
        obtain ⟨gi, oi, cap, hform, hcells⟩ : ∃ gi oi cap, (Value.slice pi N ci = .slice (some ⟨gi, oi, none⟩) N cap) ∧ gi < wr1.heap.size ∧ ∀ j, j < N → wr1.cell? ⟨gi, oi + j, none⟩ = some (.int .i64 (d j)) := by
          rcases HIl0.out with ⟨q, _⟩ | ⟨g, o, cap, e, _, _, q1, q2⟩
          · exfalso; have := HN.out; omega
          · exact ⟨g, o, cap, e, q1, q2⟩
        simp only [Value.slice.injEq] at hform
        obtain ⟨rfl, _, rfl⟩ := hform
        have HGi1 : Hid (gi < wr1.heap.size) := hcells.1
        have HCell : Hid (∀ j, j < N → wr1.cell? ⟨gi, oi + j, none⟩ = some (.int .i64 (d j))) := hcells.2
        have HC0 : Hid (Chg w wr1 []) := C
        have HLg : Hid (∀ (z : Int), R256 z → ∀ W, Chg wr1 W [] → Calls Tryz.prog 12 #[.slice (some ⟨gi, oi, none⟩) N ci, .int .i64 (d 0), fe z] W fun e w' => True) := fun z hz W h => (Lagrange_s _ N d (by have := HB.out; omega) (d 0) z hz W (HIl0.out.chg h)).mono fun _ _ _ => trivial
        clear HLg
        have HLg0 : Hid (∀ i, i < N → ∀ (z : Int), R256 z → ∀ W, Chg wr1 W [] → Calls Tryz.prog 12 #[.slice (some ⟨gi, oi, none⟩) N ci, .int .i64 (d i), fe z] W fun e w' => e = .returned (.tuple #[fe (wtv z d N i), .int .i64 0]) ∧ Chg W w' []) := fun i hi z hz W h => by
          refine (Lagrange_s _ N d (by have := HB.out; omega) (d i) z hz W (HIl0.out.chg h)).mono ?_
          rintro e w' ⟨⟨V, E, rfl, _, _, h3⟩, k⟩
          obtain ⟨rfl, rfl⟩ := h3 i hi HE.out rfl
          exact ⟨rfl, k⟩
        have C2 := k3
        replace Bx := Bx.chg k3 (by simp)
        clear k3 hcells C hgw
        go_wp2_with (refine gl_build (by rfl) 24 #[] rfl (feC 0) (by kernel_rfl) ?_)
        refine hIP.mono ?_
        rintro e w4 ⟨rfl, k4⟩
        clear hIP
        replace C2 := C2.trans1 k4
        replace Bx := Bx.chg k4 (by simp)
        replace Sw := Sw.chg k4 (by simp)
        clear k4
        go_upto_region 10 with (first
          | (with_reducible refine alloc_w rfl 24 rfl (.agg z32) zeroSc z32 rfl ?_; intro sb w5 hsb Bs0 k5)
          | (refine store_w Bs0 rfl 24 _ _ (feC (wsum 0 d y N N)) rfl rfl rfl feInfo rfl (feC_one _) ?_; intro w6 Bs k6))
        have HS1 : Hid (wr1.heap.size ≤ sb) := by have := C2.size; show wr1.heap.size ≤ sb; omega
        have HSX : Hid (¬ xb ∈ [sb]) := by have := Bx.lt; show ¬ xb ∈ [sb]; simp; omega
        have HSW : Hid (¬ gw ∈ [sb]) := by have := Sw.lt; show ¬ gw ∈ [sb]; simp; omega
        replace C2 := (C2.trans1 k5).new k6 HS1.out
        replace Bx := (Bx.chg k5 (by simp)).chg k6 HSX.out
        replace Sw := (Sw.chg k5 (by simp)).chg k6 HSW.out
        clear k5 k6 Bs0 hsb
        go_upto_region 13 with (first
          | (go_at_call 8; refine (numS 0 (by decide) _).mono ?_; rintro e w' ⟨rfl, rfl⟩)
          | (with_reducible refine alloc_w rfl 24 rfl (.agg z32) zeroSc z32 rfl ?_; intro ub w7 hub Bu0 k7))
        have HU1 : Hid (wr1.heap.size ≤ ub) := by have := C2.size; show wr1.heap.size ≤ ub; omega
        have HUX : Hid (¬ xb ∈ [ub]) := by have := Bx.lt; show ¬ xb ∈ [ub]; simp; omega
        have HUW : Hid (¬ gw ∈ [ub]) := by have := Sw.lt; show ¬ gw ∈ [ub]; simp; omega
        have HUS : Hid (¬ sb ∈ [ub]) := by have := Bs.lt; show ¬ sb ∈ [ub]; simp; omega
        have Bu : Blk w7 ub (feC (asum (wtv 0 d N) 0)) 24 := Bu0.to z32_as
        replace C2 := C2.trans1 k7
        replace Bx := Bx.chg k7 (by simp)
        replace Sw := Sw.chg k7 (by simp)
        replace Bs := Bs.chg k7 (by simp)
        clear k7 Bu0 hub
        go_upto_region 14 with (with_reducible refine alloc_w rfl 24 rfl (.agg z32) zeroSc z32 rfl ?_; intro eb w8 heb Be0 k8)
        have HE1 : Hid (wr1.heap.size ≤ eb) := by have := C2.size; show wr1.heap.size ≤ eb; omega
        have HEX : Hid (¬ xb ∈ [eb]) := by have := Bx.lt; show ¬ xb ∈ [eb]; simp; omega
        have HEW : Hid (¬ gw ∈ [eb]) := by have := Sw.lt; show ¬ gw ∈ [eb]; simp; omega
        have HES : Hid (¬ sb ∈ [eb]) := by have := Bs.lt; show ¬ sb ∈ [eb]; simp; omega
        have HEU : Hid (¬ ub ∈ [eb]) := by have := Bu.lt; show ¬ ub ∈ [eb]; simp; omega
        have HUE : Hid (¬ eb ∈ [ub]) := by have := Bu.lt; show ¬ eb ∈ [ub]; simp; omega
        have Be : Blk w8 eb (feC (wsum 0 d y N 0)) 24 := Be0.to z32_ws
        replace C2 := C2.trans1 k8
        replace Bx := Bx.chg k8 (by simp)
        replace Sw := Sw.chg k8 (by simp)
        replace Bs := Bs.chg k8 (by simp)
        replace Bu := Bu.chg k8 (by simp)
        clear k8 Be0 heb
        go_upto_region 15 with (with_reducible refine alloc_w rfl 24 rfl (.agg z32) zeroSc z32 rfl ?_; intro ab w9 hab Ba0 k9)
        have HA1 : Hid (wr1.heap.size ≤ ab) := by have := C2.size; show wr1.heap.size ≤ ab; omega
        have HAX : Hid (¬ xb ∈ [ab]) := by have := Bx.lt; show ¬ xb ∈ [ab]; simp; omega
        have HAW : Hid (¬ gw ∈ [ab]) := by have := Sw.lt; show ¬ gw ∈ [ab]; simp; omega
        have HAS : Hid (¬ sb ∈ [ab]) := by have := Bs.lt; show ¬ sb ∈ [ab]; simp; omega
        have HAU : Hid (¬ ub ∈ [ab]) := by have := Bu.lt; show ¬ ub ∈ [ab]; simp; omega
        have HAE : Hid (¬ eb ∈ [ab]) := by have := Be.lt; show ¬ eb ∈ [ab]; simp; omega
        have HUA : Hid (¬ ab ∈ [ub]) := by have := Bu.lt; show ¬ ab ∈ [ub]; simp; omega
        have HEA : Hid (¬ ab ∈ [eb]) := by have := Be.lt; show ¬ ab ∈ [eb]; simp; omega
        have Ba : Blk w9 ab (feC (asum (wtv x d N) 0)) 24 := Ba0.to z32_as
        replace C2 := C2.trans1 k9
        replace Bx := Bx.chg k9 (by simp)
        replace Sw := Sw.chg k9 (by simp)
        replace Bs := Bs.chg k9 (by simp)
        replace Bu := Bu.chg k9 (by simp)
        replace Be := Be.chg k9 (by simp)
        clear k9 Ba0 hab
        go_wp2_with fail
        go_loopw [14] (fun t wr => ∃ i : Nat, i ≤ N ∧ t = .int .i64 (i : Int) ∧ Blk wr ub (feC (asum (wtv 0 d N) i)) 24 ∧ Blk wr eb (feC (wsum 0 d y N i)) 24 ∧ Blk wr ab (feC (asum (wtv x d N) i)) 24 ∧ Blk wr sb (feC (wsum 0 d y N N)) 24 ∧ Blk wr xb (feC x) 24 ∧ Sb wr gw N (wtv 0 d N) ∧ Chg wr1 wr []) (fun t _ => (N - intOf t).toNat)
        case atStart => exact ⟨0, Nat.zero_le _, rfl, Bu, Be, Ba, Bs, Bx, Sw, C2⟩
        case round =>
          clear Bu Be Ba Bs Bx Sw C2
          obtain ⟨i, hi, rfl, Bu, Be, Ba, Bs, Bx, Sw, C2⟩ := hrel
          by_cases h : i < N
          · have hI : (i : Int) < (N : Int) := by omega
            have hI0 : (0 : Int) ≤ (i : Int) := by omega
            have e1 : IntKind.i64.wrap ((i : Int) + 1) = (i : Int) + 1 := by have := HN.out; rw [IntKind.wrap_i64]; omega
            have HMs : Hid _ := mN N i h
            have HI : Hid (i < N) := h
            have HRyi : Hid (R256 (y i)) := HRy.out i h
            have HLg : Hid (∀ (z : Int), R256 z → ∀ W, Chg wr1 W [] → Calls Tryz.prog 12 #[.slice (some ⟨gi, oi, none⟩) N ci, .int .i64 (d i), fe z] W fun e w' => e = .returned (.tuple #[fe (wtv z d N i), .int .i64 0]) ∧ Chg W w' []) := HLg0.out i h
            obtain ⟨gp, o, rfl, hg, hF⟩ := HP.out i h
            have CW := HC0.out.trans1 C2
            have hF' : wr.rangeAt gp (o + i * 33) (.int .i64 (d i) :: feL (y i)) := rangeAt_chg hF hg CW (by simp)
            have hVL : wr.rangeAt gp (o + i * 33 + 1) (feL (y i)) := fun j v hv => by
              have := hF' (j + 1) v (by rw [List.getElem?_cons_succ]; exact hv)
              rw [← this]; congr 2; omega
            have HGp : Hid (gp < wr.heap.size) := Nat.lt_of_lt_of_le hg CW.size
            have HUP : Hid (¬ gp ∈ [ub]) := by have := HC0.out.size; have := HU1.out; show ¬ gp ∈ [ub]; simp; omega
            have HEP : Hid (¬ gp ∈ [eb]) := by have := HC0.out.size; have := HE1.out; show ¬ gp ∈ [eb]; simp; omega
            clear hF hg h hi hF' CW
            go_wp2_with fail
            refine wp_region_held_drew (S := fun w' => Chg wr w' [ub]) (by kernel_rfl) ((Chg.refl wr _).drew) (fun hHeld => ?_)
            replace Bu : Blk wr.drew ub (feC (asum (wtv 0 d N) i)) 24 := Bu
            refine take_val (v := ?_) 1 (some 73) rfl (by kernel_rfl) (by kernel_rfl) (by kernel_rfl) (fun _ _ _ h => h) rfl rfl (fun w hSw => ?_) hHeld ?_
            rotate_left
            · (go_simp; try with_reducible rfl)
            try simp only [Act.put, List.setIfInBounds_toArray, List.set_cons_zero, List.set_cons_succ]
            refine take_val (v := ?_) 2 (some 74) rfl (by kernel_rfl) (by kernel_rfl) (by kernel_rfl) (fun _ _ _ h => h) rfl rfl (fun w hSw => ?_) hHeld ?_
            rotate_left
            · (go_simp; try with_reducible rfl)
            try simp only [Act.put, List.setIfInBounds_toArray, List.set_cons_zero, List.set_cons_succ]
            refine take_val (v := ?_) 3 (some 75) rfl (by kernel_rfl) (by kernel_rfl) (by kernel_rfl) (fun _ _ _ h => h) rfl rfl (fun w hSw => ?_) hHeld ?_
            rotate_left
            · (go_simp; try with_reducible rfl)
            try simp only [Act.put, List.setIfInBounds_toArray, List.set_cons_zero, List.set_cons_succ]
            refine take_val (v := (.agg (feC (wtv 0 d N i)))) 4 (some 76) rfl (by kernel_rfl) (by kernel_rfl) (by kernel_rfl) (fun _ _ _ h => h) rfl rfl (fun w hSw => ?_) hHeld ?_
            · exact exec_load_m w 24 _ rfl gw (i * 32) rfl (feL (wtv 0 d N i)) _ ((Sw.chg hSw HUW.out).range HI.out) Tryz.underlying24 rfl feInfo
            try simp only [Act.put, List.setIfInBounds_toArray, List.set_cons_zero, List.set_cons_succ]
            refine wpAnyH_ready (rs := [0]) (by kernel_rfl) (by simp) ?_
            refine AllReadyH.cons (o := _) rfl (fun K hK => ?_) ?_
            ·
              rw [if_pos (by rfl)]
              refine wp_load_mid 24 _ rfl ub (0) rfl (feL (asum (wtv 0 d N) i)) _ (blk_range Bu) Tryz.underlying24 rfl feInfo ?_
              change K (Act.put _ (some 72) _) _
              refine hK.out _ _ (hHeld) (fun hHeld => ?_)
              clear hK K
              try simp only [Act.put, List.setIfInBounds_toArray, List.set_cons_zero, List.set_cons_succ]
              refine wpAnyH_ready (rs := [5]) (by kernel_rfl) (by simp) ?_
              refine AllReadyH.cons (o := _) rfl (fun K hK => ?_) ?_
              ·
                go_simp
                refine (Add_q _ _ (r256_rl (asum_rl (wtv 0 d N) i)) (r256_rl (wtv_rl 0 d N i)) _).mono ?_
                rintro e w5 ⟨rfl, k⟩
                replace Bu := Bu.chg k (by simp)
                go_wp2_with fail
                refine hK.out _ _ (hHeld.trans1 k.wide) (fun hHeld => ?_)
                clear hK K
                try simp only [Act.put, List.setIfInBounds_toArray, List.set_cons_zero, List.set_cons_succ]
                clear k
                refine wpAnyH_ready (rs := [6]) (by kernel_rfl) (by simp) ?_
                refine AllReadyH.cons (o := _) rfl (fun K hK => ?_) ?_
                ·
                  rw [if_pos (by rfl)]
                  refine wp_store_w Bu 24 _ _ (feC (asum (wtv 0 d N) (i + 1))) rfl rfl rfl feInfo rfl (feC_one _) ?_
                  intro w1 B1 k6
                  change K (Act.put _ none _) _
                  refine hK.out _ _ (hHeld.trans1 k6) (fun hHeld => ?_)
                  clear hK K
                  try simp only [Act.put, List.setIfInBounds_toArray, List.set_cons_zero, List.set_cons_succ]
                  refine wpAnyH_done (by kernel_rfl) ?_ _
                  have hV1 := rangeAt_chg hVL HGp.out hHeld HUP.out
                  have HGp1 : Hid (gp < w1.heap.size) := Nat.lt_of_lt_of_le HGp.out hHeld.size
                  replace C2 := C2.new hHeld HU1.out
                  replace Be := Be.chg hHeld HUE.out
                  replace Ba := Ba.chg hHeld HUA.out
                  replace Bs := Bs.chg hHeld HUS.out
                  replace Bx := Bx.chg hHeld HUX.out
                  replace Sw := Sw.chg hHeld HUW.out
                  clear Bu k6 hHeld hVL
                  rename Blk w1 ub _ _ => Bu
                  go_wp2_with fail
                  refine wp_region_held_drew (S := fun w' => Chg w1 w' [eb]) (by kernel_rfl) ((Chg.refl w1 _).drew) (fun hHeld => ?_)
                  replace Be : Blk w1.drew eb (feC (wsum 0 d y N i)) 24 := Be
                  refine take_val (v := ?_) 0 (some 78) rfl (by kernel_rfl) (by kernel_rfl) (by kernel_rfl) (fun _ _ _ h => h) rfl rfl (fun w hSw => ?_) hHeld ?_
                  rotate_left
                  · (go_simp; try with_reducible rfl)
                  try simp only [Act.put, List.setIfInBounds_toArray, List.set_cons_zero, List.set_cons_succ]
                  refine take_val (v := ?_) 1 (some 79) rfl (by kernel_rfl) (by kernel_rfl) (by kernel_rfl) (fun _ _ _ h => h) rfl rfl (fun w hSw => ?_) hHeld ?_
                  rotate_left
                  · (go_simp; try with_reducible rfl)
                  try simp only [Act.put, List.setIfInBounds_toArray, List.set_cons_zero, List.set_cons_succ]
                  refine take_val (v := ?_) 2 (some 80) rfl (by kernel_rfl) (by kernel_rfl) (by kernel_rfl) (fun _ _ _ h => h) rfl rfl (fun w hSw => ?_) hHeld ?_
                  rotate_left
                  · (go_simp; try with_reducible rfl)
                  try simp only [Act.put, List.setIfInBounds_toArray, List.set_cons_zero, List.set_cons_succ]
                  refine take_val (v := (.agg (feC (wtv 0 d N i)))) 3 (some 81) rfl (by kernel_rfl) (by kernel_rfl) (by kernel_rfl) (fun _ _ _ h => h) rfl rfl (fun w hSw => ?_) hHeld ?_
                  · exact exec_load_m w 24 _ rfl gw (i * 32) rfl (feL (wtv 0 d N i)) _ ((Sw.chg hSw HEW.out).range HI.out) Tryz.underlying24 rfl feInfo
                  try simp only [Act.put, List.setIfInBounds_toArray, List.set_cons_zero, List.set_cons_succ]
                  refine take_val (v := ?_) 4 (some 82) rfl (by kernel_rfl) (by kernel_rfl) (by kernel_rfl) (fun _ _ _ h => h) rfl rfl (fun w hSw => ?_) hHeld ?_
                  rotate_left
                  · (go_simp; try with_reducible rfl)
                  try simp only [Act.put, List.setIfInBounds_toArray, List.set_cons_zero, List.set_cons_succ]
                  refine take_val (v := ?_) 5 (some 83) rfl (by kernel_rfl) (by kernel_rfl) (by kernel_rfl) (fun _ _ _ h => h) rfl rfl (fun w hSw => ?_) hHeld ?_
                  rotate_left
                  · (go_simp; try with_reducible rfl)
                  try simp only [Act.put, List.setIfInBounds_toArray, List.set_cons_zero, List.set_cons_succ]
                  refine take_val (v := ?_) 6 (some 84) rfl (by kernel_rfl) (by kernel_rfl) (by kernel_rfl) (fun _ _ _ h => h) rfl rfl (fun w hSw => ?_) hHeld ?_
                  rotate_left
                  · (go_simp; try with_reducible rfl)
                  try simp only [Act.put, List.setIfInBounds_toArray, List.set_cons_zero, List.set_cons_succ]
                  refine take_val (v := ?_) 7 (some 85) rfl (by kernel_rfl) (by kernel_rfl) (by kernel_rfl) (fun _ _ _ h => h) rfl rfl (fun w hSw => ?_) hHeld ?_
                  rotate_left
                  · (go_simp; try with_reducible rfl)
                  try simp only [Act.put, List.setIfInBounds_toArray, List.set_cons_zero, List.set_cons_succ]
                  refine take_val (v := (.agg (feC (y i)))) 8 (some 86) rfl (by kernel_rfl) (by kernel_rfl) (by kernel_rfl) (fun _ _ _ h => h) rfl rfl (fun w hSw => ?_) hHeld ?_
                  · exact exec_load_m w 24 _ rfl gp (o + i * 33 + 1) rfl (feL (y i)) _ (rangeAt_chg hV1 HGp1.out hSw HEP.out) Tryz.underlying24 rfl feInfo
                  try simp only [Act.put, List.setIfInBounds_toArray, List.set_cons_zero, List.set_cons_succ]
                  refine wpAnyH_ready (rs := [9]) (by kernel_rfl) (by simp) ?_
                  refine AllReadyH.cons (o := _) rfl (fun K hK => ?_) ?_
                  ·
                    rw [if_pos (by rfl)]
                    refine wp_load_mid 24 _ rfl eb (0) rfl (feL (wsum 0 d y N i)) _ (blk_range Be) Tryz.underlying24 rfl feInfo ?_
                    change K (Act.put _ (some 87) _) _
                    refine hK.out _ _ (hHeld) (fun hHeld => ?_)
                    clear hK K
                    try simp only [Act.put, List.setIfInBounds_toArray, List.set_cons_zero, List.set_cons_succ]
                    refine wpAnyH_ready (rs := [10]) (by kernel_rfl) (by simp) ?_
                    refine AllReadyH.cons (o := _) rfl (fun K hK => ?_) ?_
                    ·
                      go_simp
                      refine (MulAdd_q _ _ _ (r256_rl (wtv_rl 0 d N i)) HRyi.out (r256_rl (wsum_rl 0 d y N i)) _).mono ?_
                      rintro e w5 ⟨rfl, k⟩
                      replace Be := Be.chg k (by simp)
                      go_wp2_with fail
                      refine hK.out _ _ (hHeld.trans1 k.wide) (fun hHeld => ?_)
                      clear hK K
                      try simp only [Act.put, List.setIfInBounds_toArray, List.set_cons_zero, List.set_cons_succ]
                      clear k
                      refine wpAnyH_ready (rs := [11]) (by kernel_rfl) (by simp) ?_
                      refine AllReadyH.cons (o := _) rfl (fun K hK => ?_) ?_
                      ·
                        rw [if_pos (by rfl)]
                        refine wp_store_w Be 24 _ _ (feC (wsum 0 d y N (i + 1))) rfl rfl rfl feInfo rfl (feC_one _) ?_
                        intro w2 B2 k6
                        change K (Act.put _ none _) _
                        refine hK.out _ _ (hHeld.trans1 k6) (fun hHeld => ?_)
                        clear hK K
                        try simp only [Act.put, List.setIfInBounds_toArray, List.set_cons_zero, List.set_cons_succ]
                        refine wpAnyH_done (by kernel_rfl) ?_ _
                        have C2' := C2.new hHeld HE1.out
                        replace Bu := Bu.chg hHeld HEU.out
                        replace Ba := Ba.chg hHeld HEA.out
                        replace Bs := Bs.chg hHeld HES.out
                        replace Bx := Bx.chg hHeld HEX.out
                        replace Sw := Sw.chg hHeld HEW.out
                        clear Be k6 hHeld hV1 C2
                        rename Blk w2 eb _ _ => Be
                        have C2 := C2'
                        have hCI2 := cell_chg (HCell.out i HI.out) HGi1.out C2 (by simp)
                        have HGi2 : Hid (gi < w2.heap.size) := Nat.lt_of_lt_of_le HGi1.out C2.size
                        go_upto_region 20 with fail
                        try simp only [Act.put, List.setIfInBounds_toArray, List.set_cons_zero, List.set_cons_succ]
                        go_cut [15] (fun t15 wc => ∃ yb, t15 = .pointer (some ⟨yb, 0, none⟩) ∧ Blk wc yb (feC (wtv x d N i)) 24 ∧ Chg w2 wc [])
                        case first =>
                          refine wp_region_held_drew (S := fun w' => Chg w2 w' []) (by kernel_rfl) ((Chg.refl w2 _).drew) (fun hHeld => ?_)
                          refine take_val (v := ?_) 0 (some 90) rfl (by kernel_rfl) (by kernel_rfl) (by kernel_rfl) (fun _ _ _ h => h) rfl rfl (fun w hSw => ?_) hHeld ?_
                          rotate_left
                          · (go_simp; try with_reducible rfl)
                          try simp only [Act.put, List.setIfInBounds_toArray, List.set_cons_zero, List.set_cons_succ]
                          refine take_val (v := ?_) 1 (some 91) rfl (by kernel_rfl) (by kernel_rfl) (by kernel_rfl) (fun _ _ _ h => h) rfl rfl (fun w hSw => ?_) hHeld ?_
                          rotate_left
                          · (go_simp; try with_reducible rfl)
                          try simp only [Act.put, List.setIfInBounds_toArray, List.set_cons_zero, List.set_cons_succ]
                          refine take_val (v := ?_) 2 (some 92) rfl (by kernel_rfl) (by kernel_rfl) (by kernel_rfl) (fun _ _ _ h => h) rfl rfl (fun w hSw => ?_) hHeld ?_
                          rotate_left
                          · (go_simp; try with_reducible rfl)
                          try simp only [Act.put, List.setIfInBounds_toArray, List.set_cons_zero, List.set_cons_succ]
                          refine take_val (v := ?_) 3 (some 93) rfl (by kernel_rfl) (by kernel_rfl) (by kernel_rfl) (fun _ _ _ h => h) rfl rfl (fun w hSw => ?_) hHeld ?_
                          rotate_left
                          · (go_simp; try with_reducible rfl)
                          try simp only [Act.put, List.setIfInBounds_toArray, List.set_cons_zero, List.set_cons_succ]
                          refine take_val (v := (.int .i64 (d i))) 4 (some 94) rfl (by kernel_rfl) (by kernel_rfl) (by kernel_rfl) (fun _ _ _ h => h) rfl rfl (fun w hSw => ?_) hHeld ?_
                          · have cx := cell_chg hCI2 HGi2.out hSw (by simp)
                            (go_simp; try with_reducible rfl)
                          try simp only [Act.put, List.setIfInBounds_toArray, List.set_cons_zero, List.set_cons_succ]
                          refine take_load 5 (some 95) (feC x) rfl (by kernel_rfl) (by kernel_rfl) (by kernel_rfl) (fun _ _ _ h => h) rfl rfl 24 _ rfl xb rfl 24 _ (fun w h => Bx.chg h (by simp)) Tryz.underlying24 rfl (by first | exact feInfo | kernel_rfl) hHeld ?_
                          try simp only [Act.put, List.setIfInBounds_toArray, List.set_cons_zero, List.set_cons_succ]
                          refine wpAnyH_ready (rs := [6, 10]) (by kernel_rfl) (by simp) ?_
                          refine AllReadyH.cons (o := _) rfl (fun K hK => ?_) ?_
                          ·
                            go_simp
                            refine (HLg.out x HRx.out _ (C2.trans1 hHeld)).mono ?_
                            rintro e w5 ⟨rfl, kk⟩
                            go_wp2_with fail
                            refine hK.out _ _ (hHeld.trans1 kk) (fun hHeld => ?_)
                            clear hK K
                            try simp only [Act.put, List.setIfInBounds_toArray, List.set_cons_zero, List.set_cons_succ]
                            clear kk
                            refine take_val (v := ?_) 7 (some 89) rfl (by kernel_rfl) (by kernel_rfl) (by kernel_rfl) (fun _ _ _ h => h) rfl rfl (fun w hSw => ?_) hHeld ?_
                            rotate_left
                            · (go_simp; try with_reducible rfl)
                            try simp only [Act.put, List.setIfInBounds_toArray, List.set_cons_zero, List.set_cons_succ]
                            refine take_val (v := ?_) 8 (some 97) rfl (by kernel_rfl) (by kernel_rfl) (by kernel_rfl) (fun _ _ _ h => h) rfl rfl (fun w hSw => ?_) hHeld ?_
                            rotate_left
                            · (go_simp; try with_reducible rfl)
                            try simp only [Act.put, List.setIfInBounds_toArray, List.set_cons_zero, List.set_cons_succ]
                            refine take_val (v := ?_) 9 (some 98) rfl (by kernel_rfl) (by kernel_rfl) (by kernel_rfl) (fun _ _ _ h => h) rfl rfl (fun w hSw => ?_) hHeld ?_
                            rotate_left
                            · (go_simp; try with_reducible rfl)
                            try simp only [Act.put, List.setIfInBounds_toArray, List.set_cons_zero, List.set_cons_succ]
                            refine wpAnyH_ready (rs := [10]) (by kernel_rfl) (by simp) ?_
                            refine AllReadyH.cons (o := _) rfl (fun K hK => ?_) ?_
                            ·
                              rw [if_pos (by rfl)]
                              refine wp_alloc_w 24 rfl (.agg z32) zeroSc z32 rfl ?_
                              intro yb w6 hyb By k6
                              change K (Act.put _ (some 15) _) _
                              have HYN : Hid (w2.heap.size ≤ yb) := by have := hHeld.size; show w2.heap.size ≤ yb; omega
                              refine hK.out _ _ (hHeld.trans1 k6) (fun hHeld => ?_)
                              clear hK K
                              try simp only [Act.put, List.setIfInBounds_toArray, List.set_cons_zero, List.set_cons_succ]
                              clear k6 hyb
                              refine wpAnyH_ready (rs := [11]) (by kernel_rfl) (by simp) ?_
                              refine AllReadyH.cons (o := _) rfl (fun K hK => ?_) ?_
                              ·
                                rw [if_pos (by rfl)]
                                refine wp_store_w By 24 _ _ (feC (wtv x d N i)) rfl rfl rfl feInfo rfl (feC_one _) ?_
                                intro w7 B7 k7
                                refine hK.out _ _ (hHeld.new k7 HYN.out) (fun hHeld => ?_)
                                clear hK K
                                try simp only [Act.put, List.setIfInBounds_toArray, List.set_cons_zero, List.set_cons_succ]
                                refine take_val (v := ?_) 12 (some 16) rfl (by kernel_rfl) (by kernel_rfl) (by kernel_rfl) (fun _ _ _ h => h) rfl rfl (fun w hSw => ?_) hHeld ?_
                                rotate_left
                                · (go_simp; try with_reducible rfl)
                                try simp only [Act.put, List.setIfInBounds_toArray, List.set_cons_zero, List.set_cons_succ]
                                refine wpAnyH_done (by kernel_rfl) ?_ _
                                clear k7 By HYN
                                go_wp2_with fail
                                go_meet
                                case rel => exact ⟨yb, rfl, B7, hHeld⟩
                              exact AllReadyH.nil
                            exact AllReadyH.nil
                          refine AllReadyH.cons (o := _) rfl (fun K hK => ?_) ?_
                          ·
                            rw [if_pos (by rfl)]
                            refine wp_alloc_w 24 rfl (.agg z32) zeroSc z32 rfl ?_
                            intro yb w6 hyb By k6
                            change K (Act.put _ (some 15) _) _
                            have HYN : Hid (w2.heap.size ≤ yb) := by have := hHeld.size; show w2.heap.size ≤ yb; omega
                            refine hK.out _ _ (hHeld.trans1 k6) (fun hHeld => ?_)
                            clear hK K
                            try simp only [Act.put, List.setIfInBounds_toArray, List.set_cons_zero, List.set_cons_succ]
                            clear k6 hyb
                            refine wpAnyH_ready (rs := [6]) (by kernel_rfl) (by simp) ?_
                            refine AllReadyH.cons (o := _) rfl (fun K hK => ?_) ?_
                            ·
                              go_simp
                              refine (HLg.out x HRx.out _ (C2.trans1 hHeld)).mono ?_
                              rintro e w5 ⟨rfl, kk⟩
                              go_wp2_with fail
                              refine hK.out _ _ (hHeld.trans1 kk) (fun hHeld => ?_)
                              clear hK K
                              try simp only [Act.put, List.setIfInBounds_toArray, List.set_cons_zero, List.set_cons_succ]
                              replace By := By.chg kk (by simp)
                              clear kk
                              refine take_val (v := ?_) 7 (some 89) rfl (by kernel_rfl) (by kernel_rfl) (by kernel_rfl) (fun _ _ _ h => h) rfl rfl (fun w hSw => ?_) hHeld ?_
                              rotate_left
                              · (go_simp; try with_reducible rfl)
                              try simp only [Act.put, List.setIfInBounds_toArray, List.set_cons_zero, List.set_cons_succ]
                              refine take_val (v := ?_) 8 (some 97) rfl (by kernel_rfl) (by kernel_rfl) (by kernel_rfl) (fun _ _ _ h => h) rfl rfl (fun w hSw => ?_) hHeld ?_
                              rotate_left
                              · (go_simp; try with_reducible rfl)
                              try simp only [Act.put, List.setIfInBounds_toArray, List.set_cons_zero, List.set_cons_succ]
                              refine take_val (v := ?_) 9 (some 98) rfl (by kernel_rfl) (by kernel_rfl) (by kernel_rfl) (fun _ _ _ h => h) rfl rfl (fun w hSw => ?_) hHeld ?_
                              rotate_left
                              · (go_simp; try with_reducible rfl)
                              try simp only [Act.put, List.setIfInBounds_toArray, List.set_cons_zero, List.set_cons_succ]
                              refine wpAnyH_ready (rs := [11]) (by kernel_rfl) (by simp) ?_
                              refine AllReadyH.cons (o := _) rfl (fun K hK => ?_) ?_
                              ·
                                rw [if_pos (by rfl)]
                                refine wp_store_w By 24 _ _ (feC (wtv x d N i)) rfl rfl rfl feInfo rfl (feC_one _) ?_
                                intro w7 B7 k7
                                refine hK.out _ _ (hHeld.new k7 HYN.out) (fun hHeld => ?_)
                                clear hK K
                                try simp only [Act.put, List.setIfInBounds_toArray, List.set_cons_zero, List.set_cons_succ]
                                refine take_val (v := ?_) 12 (some 16) rfl (by kernel_rfl) (by kernel_rfl) (by kernel_rfl) (fun _ _ _ h => h) rfl rfl (fun w hSw => ?_) hHeld ?_
                                rotate_left
                                · (go_simp; try with_reducible rfl)
                                try simp only [Act.put, List.setIfInBounds_toArray, List.set_cons_zero, List.set_cons_succ]
                                refine wpAnyH_done (by kernel_rfl) ?_ _
                                clear k7 By HYN
                                go_wp2_with fail
                                go_meet
                                case rel => exact ⟨yb, rfl, B7, hHeld⟩
                              exact AllReadyH.nil
                            exact AllReadyH.nil
                          exact AllReadyH.nil
                        case rest =>
                        obtain ⟨yb, rfl, By, ky⟩ := hcut
                        obtain ⟨w3, rfl⟩ : ∃ z, z = wc := ⟨wc, rfl⟩
                        replace C2 := C2.trans1 ky
                        replace Bu := Bu.chg ky (by simp)
                        replace Be := Be.chg ky (by simp)
                        replace Ba := Ba.chg ky (by simp)
                        replace Bs := Bs.chg ky (by simp)
                        replace Bx := Bx.chg ky (by simp)
                        replace Sw := Sw.chg ky (by simp)
                        clear ky hCI2 C2'
                        go_wp2_with (first
                          | (with_reducible refine load_b Ba 24 (.tmp 13) Tryz.underlying24 ?_ ?_ ?_ ?_ ?_ ?_
                             · rfl
                             · rfl
                             · rfl
                             · rfl
                             · exact feInfo)
                          | (with_reducible refine load_b By 24 (.tmp 15) Tryz.underlying24 ?_ ?_ ?_ ?_ ?_ ?_
                             · rfl
                             · rfl
                             · rfl
                             · rfl
                             · exact feInfo))
                        refine (Add_q _ _ (r256_rl (asum_rl (wtv x d N) i)) (r256_rl (wtv_rl x d N i)) _).mono ?_
                        rintro e w3' ⟨rfl, ka⟩
                        replace C2 := C2.trans1 ka
                        replace Bu := Bu.chg ka (by simp)
                        replace Be := Be.chg ka (by simp)
                        replace Ba := Ba.chg ka (by simp)
                        replace Bs := Bs.chg ka (by simp)
                        replace Bx := Bx.chg ka (by simp)
                        replace Sw := Sw.chg ka (by simp)
                        clear ka By
                        go_upto_region 22 with (refine store_w Ba rfl 24 _ _ (feC (asum (wtv x d N) (i + 1))) rfl rfl rfl feInfo rfl (feC_one _) ?_; intro w4 Ba4 k4)
                        replace C2 := C2.new k4 HA1.out
                        replace Bu := Bu.chg k4 HAU.out
                        replace Be := Be.chg k4 HAE.out
                        replace Bs := Bs.chg k4 HAS.out
                        replace Bx := Bx.chg k4 HAX.out
                        replace Sw := Sw.chg k4 HAW.out
                        clear k4 Ba
                        rename Blk w4 ab _ _ => Ba
                        have HC4 : Hid (Chg wr1 w4 []) := C2
                        go_wp2_with fail
                        have HCI : Hid (∀ j, j < N → wr1.cell? ⟨gi, oi + j, none⟩ = some (.int .i64 (d j))) := HCell.out
                        go_loopw [17] (fun t wr => ∃ k : Nat, k ≤ N ∧ t = .int .i64 (k : Int) ∧ Chg w4 wr []) (fun t _ => (N - intOf t).toNat)
                        case atStart => exact ⟨0, Nat.zero_le _, rfl, Chg.refl _ _⟩
                        case round =>
                          obtain ⟨wk, rfl⟩ : ∃ z, z = wr := ⟨wr, rfl⟩
                          obtain ⟨k, hk, rfl, Ck⟩ := hrel
                          by_cases h : k < N
                          · have hK : (k : Int) < (N : Int) := by omega
                            have hK0 : (0 : Int) ≤ (k : Int) := by omega
                            have ek : IntKind.i64.wrap ((k : Int) + 1) = (k : Int) + 1 := by have := HN.out; rw [IntKind.wrap_i64]; omega
                            have HMk : Hid _ := mN N k h
                            have HKN : Hid (k < N) := h
                            have HWu : Hid (wu (d k) = d k) := wu_id (HD.out k h)
                            have HRk : Hid (R256 (d k)) := by have := HD.out k h; show R256 (d k); unfold R256; omega
                            have hCI := cell_chg (cell_chg (HCI.out i HI.out) HGi1.out HC4.out (by simp)) (Nat.lt_of_lt_of_le HGi1.out HC4.out.size) Ck (by simp)
                            have hCK := cell_chg (cell_chg (HCI.out k h) HGi1.out HC4.out (by simp)) (Nat.lt_of_lt_of_le HGi1.out HC4.out.size) Ck (by simp)
                            have HGi : Hid (gi < wk.heap.size) := Nat.lt_of_lt_of_le (Nat.lt_of_lt_of_le HGi1.out HC4.out.size) Ck.size
                            have HDl : Hid (wtv (d k) d N i = if i = k then 1 else 0) := wtv_delta HIE.out HI.out h
                            clear h hk
                            go_upto_region 25 with fail
                            go_cut [18] (fun t18 wc => ∃ zb, t18 = .pointer (some ⟨zb, 0, none⟩) ∧ Blk wc zb (feC (wtv (d k) d N i)) 24 ∧ Chg wk wc [])
                            case first =>
                                refine wp_region_held_drew (S := fun w' => Chg wk w' []) (by kernel_rfl) ((Chg.refl wk _).drew) (fun hHeld => ?_)
                                refine take_val (v := ?_) 0 (some 109) rfl (by kernel_rfl) (by kernel_rfl) (by kernel_rfl) (fun _ _ _ h => h) rfl rfl (fun w hSw => ?_) hHeld ?_
                                rotate_left
                                · (go_simp; try with_reducible rfl)
                                try simp only [Act.put, List.setIfInBounds_toArray, List.set_cons_zero, List.set_cons_succ]
                                refine take_val (v := ?_) 1 (some 110) rfl (by kernel_rfl) (by kernel_rfl) (by kernel_rfl) (fun _ _ _ h => h) rfl rfl (fun w hSw => ?_) hHeld ?_
                                rotate_left
                                · (go_simp; try with_reducible rfl)
                                try simp only [Act.put, List.setIfInBounds_toArray, List.set_cons_zero, List.set_cons_succ]
                                refine take_val (v := ?_) 2 (some 111) rfl (by kernel_rfl) (by kernel_rfl) (by kernel_rfl) (fun _ _ _ h => h) rfl rfl (fun w hSw => ?_) hHeld ?_
                                rotate_left
                                · (go_simp; try with_reducible rfl)
                                try simp only [Act.put, List.setIfInBounds_toArray, List.set_cons_zero, List.set_cons_succ]
                                refine take_val (v := ?_) 3 (some 112) rfl (by kernel_rfl) (by kernel_rfl) (by kernel_rfl) (fun _ _ _ h => h) rfl rfl (fun w hSw => ?_) hHeld ?_
                                rotate_left
                                · (go_simp; try with_reducible rfl)
                                try simp only [Act.put, List.setIfInBounds_toArray, List.set_cons_zero, List.set_cons_succ]
                                refine take_val (v := (.int .i64 (d i))) 4 (some 113) rfl (by kernel_rfl) (by kernel_rfl) (by kernel_rfl) (fun _ _ _ h => h) rfl rfl (fun w hSw => ?_) hHeld ?_
                                · have cx := cell_chg hCI HGi.out hSw (by simp)
                                  (go_simp; try with_reducible rfl)
                                try simp only [Act.put, List.setIfInBounds_toArray, List.set_cons_zero, List.set_cons_succ]
                                refine take_val (v := ?_) 5 (some 114) rfl (by kernel_rfl) (by kernel_rfl) (by kernel_rfl) (fun _ _ _ h => h) rfl rfl (fun w hSw => ?_) hHeld ?_
                                rotate_left
                                · (go_simp; try with_reducible rfl)
                                try simp only [Act.put, List.setIfInBounds_toArray, List.set_cons_zero, List.set_cons_succ]
                                refine take_val (v := ?_) 6 (some 115) rfl (by kernel_rfl) (by kernel_rfl) (by kernel_rfl) (fun _ _ _ h => h) rfl rfl (fun w hSw => ?_) hHeld ?_
                                rotate_left
                                · (go_simp; try with_reducible rfl)
                                try simp only [Act.put, List.setIfInBounds_toArray, List.set_cons_zero, List.set_cons_succ]
                                refine take_val (v := ?_) 7 (some 116) rfl (by kernel_rfl) (by kernel_rfl) (by kernel_rfl) (fun _ _ _ h => h) rfl rfl (fun w hSw => ?_) hHeld ?_
                                rotate_left
                                · (go_simp; try with_reducible rfl)
                                try simp only [Act.put, List.setIfInBounds_toArray, List.set_cons_zero, List.set_cons_succ]
                                refine take_val (v := (.int .i64 (d k))) 8 (some 117) rfl (by kernel_rfl) (by kernel_rfl) (by kernel_rfl) (fun _ _ _ h => h) rfl rfl (fun w hSw => ?_) hHeld ?_
                                · have cx := cell_chg hCK HGi.out hSw (by simp)
                                  (go_simp; try with_reducible rfl)
                                try simp only [Act.put, List.setIfInBounds_toArray, List.set_cons_zero, List.set_cons_succ]
                                refine wpAnyH_ready (rs := [9, 14]) (by kernel_rfl) (by simp) ?_
                                refine AllReadyH.cons (o := _) rfl (fun K hK => ?_) ?_
                                ·
                                  go_simp
                                  refine (Place_w (d k) _).mono ?_
                                  rintro e w5 ⟨rfl, kk⟩
                                  rw [HWu.out]
                                  go_wp2_with fail
                                  refine hK.out _ _ (hHeld.trans1 kk) (fun hHeld => ?_)
                                  clear hK K
                                  try simp only [Act.put, List.setIfInBounds_toArray, List.set_cons_zero, List.set_cons_succ]
                                  clear kk
                                  refine wpAnyH_ready (rs := [10, 14]) (by kernel_rfl) (by simp) ?_
                                  refine AllReadyH.cons (o := _) rfl (fun K hK => ?_) ?_
                                  ·
                                    go_simp
                                    refine (HLg.out (d k) HRk.out _ (HC4.out.trans1 (Ck.trans1 hHeld))).mono ?_
                                    rintro e w5 ⟨rfl, kk⟩
                                    go_wp2_with fail
                                    refine hK.out _ _ (hHeld.trans1 kk) (fun hHeld => ?_)
                                    clear hK K
                                    try simp only [Act.put, List.setIfInBounds_toArray, List.set_cons_zero, List.set_cons_succ]
                                    clear kk
                                    refine take_val (v := ?_) 11 (some 108) rfl (by kernel_rfl) (by kernel_rfl) (by kernel_rfl) (fun _ _ _ h => h) rfl rfl (fun w hSw => ?_) hHeld ?_
                                    rotate_left
                                    · (go_simp; try with_reducible rfl)
                                    try simp only [Act.put, List.setIfInBounds_toArray, List.set_cons_zero, List.set_cons_succ]
                                    refine take_val (v := ?_) 12 (some 120) rfl (by kernel_rfl) (by kernel_rfl) (by kernel_rfl) (fun _ _ _ h => h) rfl rfl (fun w hSw => ?_) hHeld ?_
                                    rotate_left
                                    · (go_simp; try with_reducible rfl)
                                    try simp only [Act.put, List.setIfInBounds_toArray, List.set_cons_zero, List.set_cons_succ]
                                    refine take_val (v := ?_) 13 (some 121) rfl (by kernel_rfl) (by kernel_rfl) (by kernel_rfl) (fun _ _ _ h => h) rfl rfl (fun w hSw => ?_) hHeld ?_
                                    rotate_left
                                    · (go_simp; try with_reducible rfl)
                                    try simp only [Act.put, List.setIfInBounds_toArray, List.set_cons_zero, List.set_cons_succ]
                                    refine wpAnyH_ready (rs := [14]) (by kernel_rfl) (by simp) ?_
                                    refine AllReadyH.cons (o := _) rfl (fun K hK => ?_) ?_
                                    ·
                                      rw [if_pos (by rfl)]
                                      refine wp_alloc_w 24 rfl (.agg z32) zeroSc z32 rfl ?_
                                      intro zb w6 hzb Bz k6
                                      change K (Act.put _ (some 18) _) _
                                      have HZN : Hid (wk.heap.size ≤ zb) := by have := hHeld.size; show wk.heap.size ≤ zb; omega
                                      refine hK.out _ _ (hHeld.trans1 k6) (fun hHeld => ?_)
                                      clear hK K
                                      try simp only [Act.put, List.setIfInBounds_toArray, List.set_cons_zero, List.set_cons_succ]
                                      clear k6 hzb
                                      refine wpAnyH_ready (rs := [15]) (by kernel_rfl) (by simp) ?_
                                      refine AllReadyH.cons (o := _) rfl (fun K hK => ?_) ?_
                                      ·
                                        rw [if_pos (by rfl)]
                                        refine wp_store_w Bz 24 _ _ (feC (wtv (d k) d N i)) rfl rfl rfl feInfo rfl (feC_one _) ?_
                                        intro w7 B7 k7
                                        refine hK.out _ _ (hHeld.new k7 HZN.out) (fun hHeld => ?_)
                                        clear hK K
                                        try simp only [Act.put, List.setIfInBounds_toArray, List.set_cons_zero, List.set_cons_succ]
                                        refine take_val (v := ?_) 16 (some 19) rfl (by kernel_rfl) (by kernel_rfl) (by kernel_rfl) (fun _ _ _ h => h) rfl rfl (fun w hSw => ?_) hHeld ?_
                                        rotate_left
                                        · (go_simp; try with_reducible rfl)
                                        try simp only [Act.put, List.setIfInBounds_toArray, List.set_cons_zero, List.set_cons_succ]
                                        refine wpAnyH_done (by kernel_rfl) ?_ _
                                        clear k7 Bz HZN
                                        go_wp2_with fail
                                        go_meet
                                        case rel => exact ⟨zb, rfl, B7, hHeld⟩
                                      exact AllReadyH.nil
                                    exact AllReadyH.nil
                                  refine AllReadyH.cons (o := _) rfl (fun K hK => ?_) ?_
                                  ·
                                    rw [if_pos (by rfl)]
                                    refine wp_alloc_w 24 rfl (.agg z32) zeroSc z32 rfl ?_
                                    intro zb w6 hzb Bz k6
                                    change K (Act.put _ (some 18) _) _
                                    have HZN : Hid (wk.heap.size ≤ zb) := by have := hHeld.size; show wk.heap.size ≤ zb; omega
                                    refine hK.out _ _ (hHeld.trans1 k6) (fun hHeld => ?_)
                                    clear hK K
                                    try simp only [Act.put, List.setIfInBounds_toArray, List.set_cons_zero, List.set_cons_succ]
                                    clear k6 hzb
                                    refine wpAnyH_ready (rs := [10]) (by kernel_rfl) (by simp) ?_
                                    refine AllReadyH.cons (o := _) rfl (fun K hK => ?_) ?_
                                    ·
                                      go_simp
                                      refine (HLg.out (d k) HRk.out _ (HC4.out.trans1 (Ck.trans1 hHeld))).mono ?_
                                      rintro e w5 ⟨rfl, kk⟩
                                      go_wp2_with fail
                                      refine hK.out _ _ (hHeld.trans1 kk) (fun hHeld => ?_)
                                      clear hK K
                                      try simp only [Act.put, List.setIfInBounds_toArray, List.set_cons_zero, List.set_cons_succ]
                                      replace Bz := Bz.chg kk (by simp)
                                      clear kk
                                      refine take_val (v := ?_) 11 (some 108) rfl (by kernel_rfl) (by kernel_rfl) (by kernel_rfl) (fun _ _ _ h => h) rfl rfl (fun w hSw => ?_) hHeld ?_
                                      rotate_left
                                      · (go_simp; try with_reducible rfl)
                                      try simp only [Act.put, List.setIfInBounds_toArray, List.set_cons_zero, List.set_cons_succ]
                                      refine take_val (v := ?_) 12 (some 120) rfl (by kernel_rfl) (by kernel_rfl) (by kernel_rfl) (fun _ _ _ h => h) rfl rfl (fun w hSw => ?_) hHeld ?_
                                      rotate_left
                                      · (go_simp; try with_reducible rfl)
                                      try simp only [Act.put, List.setIfInBounds_toArray, List.set_cons_zero, List.set_cons_succ]
                                      refine take_val (v := ?_) 13 (some 121) rfl (by kernel_rfl) (by kernel_rfl) (by kernel_rfl) (fun _ _ _ h => h) rfl rfl (fun w hSw => ?_) hHeld ?_
                                      rotate_left
                                      · (go_simp; try with_reducible rfl)
                                      try simp only [Act.put, List.setIfInBounds_toArray, List.set_cons_zero, List.set_cons_succ]
                                      refine wpAnyH_ready (rs := [15]) (by kernel_rfl) (by simp) ?_
                                      refine AllReadyH.cons (o := _) rfl (fun K hK => ?_) ?_
                                      ·
                                        rw [if_pos (by rfl)]
                                        refine wp_store_w Bz 24 _ _ (feC (wtv (d k) d N i)) rfl rfl rfl feInfo rfl (feC_one _) ?_
                                        intro w7 B7 k7
                                        refine hK.out _ _ (hHeld.new k7 HZN.out) (fun hHeld => ?_)
                                        clear hK K
                                        try simp only [Act.put, List.setIfInBounds_toArray, List.set_cons_zero, List.set_cons_succ]
                                        refine take_val (v := ?_) 16 (some 19) rfl (by kernel_rfl) (by kernel_rfl) (by kernel_rfl) (fun _ _ _ h => h) rfl rfl (fun w hSw => ?_) hHeld ?_
                                        rotate_left
                                        · (go_simp; try with_reducible rfl)
                                        try simp only [Act.put, List.setIfInBounds_toArray, List.set_cons_zero, List.set_cons_succ]
                                        refine wpAnyH_done (by kernel_rfl) ?_ _
                                        clear k7 Bz HZN
                                        go_wp2_with fail
                                        go_meet
                                        case rel => exact ⟨zb, rfl, B7, hHeld⟩
                                      exact AllReadyH.nil
                                    exact AllReadyH.nil
                                  exact AllReadyH.nil
                                refine AllReadyH.cons (o := _) rfl (fun K hK => ?_) ?_
                                ·
                                  rw [if_pos (by rfl)]
                                  refine wp_alloc_w 24 rfl (.agg z32) zeroSc z32 rfl ?_
                                  intro zb w6 hzb Bz k6
                                  change K (Act.put _ (some 18) _) _
                                  have HZN : Hid (wk.heap.size ≤ zb) := by have := hHeld.size; show wk.heap.size ≤ zb; omega
                                  refine hK.out _ _ (hHeld.trans1 k6) (fun hHeld => ?_)
                                  clear hK K
                                  try simp only [Act.put, List.setIfInBounds_toArray, List.set_cons_zero, List.set_cons_succ]
                                  clear k6 hzb
                                  refine wpAnyH_ready (rs := [9]) (by kernel_rfl) (by simp) ?_
                                  refine AllReadyH.cons (o := _) rfl (fun K hK => ?_) ?_
                                  ·
                                    go_simp
                                    refine (Place_w (d k) _).mono ?_
                                    rintro e w5 ⟨rfl, kk⟩
                                    rw [HWu.out]
                                    go_wp2_with fail
                                    refine hK.out _ _ (hHeld.trans1 kk) (fun hHeld => ?_)
                                    clear hK K
                                    try simp only [Act.put, List.setIfInBounds_toArray, List.set_cons_zero, List.set_cons_succ]
                                    replace Bz := Bz.chg kk (by simp)
                                    clear kk
                                    refine wpAnyH_ready (rs := [10]) (by kernel_rfl) (by simp) ?_
                                    refine AllReadyH.cons (o := _) rfl (fun K hK => ?_) ?_
                                    ·
                                      go_simp
                                      refine (HLg.out (d k) HRk.out _ (HC4.out.trans1 (Ck.trans1 hHeld))).mono ?_
                                      rintro e w5 ⟨rfl, kk⟩
                                      go_wp2_with fail
                                      refine hK.out _ _ (hHeld.trans1 kk) (fun hHeld => ?_)
                                      clear hK K
                                      try simp only [Act.put, List.setIfInBounds_toArray, List.set_cons_zero, List.set_cons_succ]
                                      replace Bz := Bz.chg kk (by simp)
                                      clear kk
                                      refine take_val (v := ?_) 11 (some 108) rfl (by kernel_rfl) (by kernel_rfl) (by kernel_rfl) (fun _ _ _ h => h) rfl rfl (fun w hSw => ?_) hHeld ?_
                                      rotate_left
                                      · (go_simp; try with_reducible rfl)
                                      try simp only [Act.put, List.setIfInBounds_toArray, List.set_cons_zero, List.set_cons_succ]
                                      refine take_val (v := ?_) 12 (some 120) rfl (by kernel_rfl) (by kernel_rfl) (by kernel_rfl) (fun _ _ _ h => h) rfl rfl (fun w hSw => ?_) hHeld ?_
                                      rotate_left
                                      · (go_simp; try with_reducible rfl)
                                      try simp only [Act.put, List.setIfInBounds_toArray, List.set_cons_zero, List.set_cons_succ]
                                      refine take_val (v := ?_) 13 (some 121) rfl (by kernel_rfl) (by kernel_rfl) (by kernel_rfl) (fun _ _ _ h => h) rfl rfl (fun w hSw => ?_) hHeld ?_
                                      rotate_left
                                      · (go_simp; try with_reducible rfl)
                                      try simp only [Act.put, List.setIfInBounds_toArray, List.set_cons_zero, List.set_cons_succ]
                                      refine wpAnyH_ready (rs := [15]) (by kernel_rfl) (by simp) ?_
                                      refine AllReadyH.cons (o := _) rfl (fun K hK => ?_) ?_
                                      ·
                                        rw [if_pos (by rfl)]
                                        refine wp_store_w Bz 24 _ _ (feC (wtv (d k) d N i)) rfl rfl rfl feInfo rfl (feC_one _) ?_
                                        intro w7 B7 k7
                                        refine hK.out _ _ (hHeld.new k7 HZN.out) (fun hHeld => ?_)
                                        clear hK K
                                        try simp only [Act.put, List.setIfInBounds_toArray, List.set_cons_zero, List.set_cons_succ]
                                        refine take_val (v := ?_) 16 (some 19) rfl (by kernel_rfl) (by kernel_rfl) (by kernel_rfl) (fun _ _ _ h => h) rfl rfl (fun w hSw => ?_) hHeld ?_
                                        rotate_left
                                        · (go_simp; try with_reducible rfl)
                                        try simp only [Act.put, List.setIfInBounds_toArray, List.set_cons_zero, List.set_cons_succ]
                                        refine wpAnyH_done (by kernel_rfl) ?_ _
                                        clear k7 Bz HZN
                                        go_wp2_with fail
                                        go_meet
                                        case rel => exact ⟨zb, rfl, B7, hHeld⟩
                                      exact AllReadyH.nil
                                    exact AllReadyH.nil
                                  exact AllReadyH.nil
                                exact AllReadyH.nil
                            case rest =>
                            obtain ⟨zb, rfl, Bz, kz⟩ := hcut
                            replace Ck := Ck.trans1 kz
                            clear kz hCI hCK
                            rw [HDl.out] at Bz
                            by_cases hik : i = k
                            · subst hik
                              rw [if_pos rfl] at Bz
                              have hbe : ((i : Int) == (i : Int)) = true := by simp
                              have hbn : ((i : Int) != (i : Int)) = false := by simp
                              have hq1 := HQ10.out
                              go_wp2_with (first
                                | (with_reducible refine build_1 ?_ 24 0 (.const (.int .u8 1)) ?_ (.int .u8 1) ?_ (feC 1) HB1.out ?_
                                   · rfl
                                   · rfl
                                   · rfl)
                                | (with_reducible refine load_gd Bz (.tmp 18) ?_ ?_ ?_ ?_
                                   · rfl
                                   · rfl
                                   · rfl)
                                | (refine gl_build (by rfl) 24 #[] rfl (feC 0) (by kernel_rfl) ?_))
                              go_roundw
                              case rel => exact ⟨i + 1, HKN.out, by go_num, Ck⟩
                              case measure => exact HMk.out
                            · rw [if_neg hik] at Bz
                              have hbe : ((i : Int) == (k : Int)) = false := by simp; omega
                              have hbn : ((i : Int) != (k : Int)) = true := by simp; omega
                              have hq1 := HQ01.out
                              have hik2 : ¬ (i : Int) = (k : Int) := by omega
                              go_wp2_with (first
                                | (with_reducible refine build_1 ?_ 24 0 (.const (.int .u8 1)) ?_ (.int .u8 1) ?_ (feC 1) HB1.out ?_
                                   · rfl
                                   · rfl
                                   · rfl)
                                | (with_reducible refine load_gd Bz (.tmp 18) ?_ ?_ ?_ ?_
                                   · rfl
                                   · rfl
                                   · rfl)
                                | (refine gl_build (by rfl) 24 #[] rfl (feC 0) (by kernel_rfl) ?_))
                              go_roundw
                              case rel => exact ⟨k + 1, HKN.out, by go_num, Ck⟩
                              case measure => exact HMk.out
                          · obtain rfl : N = k := by omega
                            have hK : ¬ (N : Int) < (N : Int) := by omega
                            replace C2 := HC4.out.trans1 Ck
                            replace Bu := Bu.chg Ck (by simp)
                            replace Be := Be.chg Ck (by simp)
                            replace Ba := Ba.chg Ck (by simp)
                            replace Bs := Bs.chg Ck (by simp)
                            replace Bx := Bx.chg Ck (by simp)
                            replace Sw := Sw.chg Ck (by simp)
                            clear h hk Ck
                            go_wp2_with fail
                            go_roundw
                            case rel => exact ⟨i + 1, HI.out, by go_num, Bu, Be, Ba, Bs, Bx, Sw, C2⟩
                            case measure => exact HMs.out
                      exact AllReadyH.nil
                    exact AllReadyH.nil
                  exact AllReadyH.nil
                exact AllReadyH.nil
              exact AllReadyH.nil
            exact AllReadyH.nil
          · obtain rfl : N = i := by omega
            have hI : ¬ (N : Int) < (N : Int) := by omega
            rw [asum_one HIE.out HN.out.1] at Bu Ba
            clear h hi Bx Sw
            go_upto_region 29 with (first
              | (with_reducible refine alloc_w rfl 24 rfl (.agg z32) zeroSc z32 rfl ?_; intro nb w5 hnb Bn0 k5)
              | (with_reducible refine build_1 ?_ 24 0 (.const (.int .u8 1)) ?_ (.int .u8 1) ?_ (feC 1) HB1.out ?_
                 · rfl
                 · rfl
                 · rfl)
              | (refine store_w Bn0 rfl 24 _ _ (feC 1) rfl rfl rfl feInfo rfl (feC_one _) ?_; intro w6 Bn k6))
            have HN1 : Hid (wr1.heap.size ≤ nb) := by have := C2.size; show wr1.heap.size ≤ nb; omega
            replace Bu := (Bu.chg k5 (by simp)).chg k6 (by have := Bu.lt; simp; omega)
            replace Be := (Be.chg k5 (by simp)).chg k6 (by have := Be.lt; simp; omega)
            replace Ba := (Ba.chg k5 (by simp)).chg k6 (by have := Ba.lt; simp; omega)
            replace Bs := (Bs.chg k5 (by simp)).chg k6 (by have := Bs.lt; simp; omega)
            replace C2 := (C2.trans1 k5).new k6 HN1.out
            clear k5 k6 Bn0 hnb
            go_wp2_with (first
              | (go_at_call 8; refine (numS 0 (by decide) _).mono ?_; rintro e w' ⟨rfl, rfl⟩)
              | (with_reducible refine load_gd Bu (.tmp 11) ?_ ?_ ?_ ?_
                 · rfl
                 · rfl
                 · rfl)
              | (with_reducible refine load_gd Bn (.tmp 20) ?_ ?_ ?_ ?_
                 · rfl
                 · rfl
                 · rfl)
              | (with_reducible refine load_gd Ba (.tmp 13) ?_ ?_ ?_ ?_
                 · rfl
                 · rfl
                 · rfl)
              | (with_reducible refine load_gd Be (.tmp 12) ?_ ?_ ?_ ?_
                 · rfl
                 · rfl
                 · rfl)
              | (with_reducible refine load_gd Bs (.tmp 9) ?_ ?_ ?_ ?_
                 · rfl
                 · rfl
                 · rfl))
            go_ret
            exact ⟨rfl, HC0.out.trans1 C2⟩
      · rcases hW with ⟨_, rfl⟩ | ⟨hb, _⟩
        · have hw : IntKind.i64.wrap E = E := by rw [← HE.out]; exact idR_wO d N
          have HIS : Hid (∀ W, Chg wr1 W [] → Calls Tryz.prog 9 #[.slice pi N ci] W fun e w' => e = .returned (.int .i64 E) ∧ Chg W w' []) := fun W h => by
            have q := IDs_r _ N d (by have := HB.out; omega) W (HIl0.out.chg h)
            rwa [HE.out] at q
          clear hE
          go_wp2_with (refine gl_build (by rfl) 24 #[] rfl (feC 0) (by kernel_rfl) ?_)
          refine hIP.mono ?_
          rintro e w4 ⟨rfl, k4⟩
          clear hIP
          obtain ⟨V, hV⟩ : ∃ V, ipR 0 d y N = V := ⟨_, rfl⟩
          rw [hV]
          clear hV
          have hEE : (E == E) = true := by simp
          go_wp2_with (first
            | (with_reducible refine alloc_w rfl 24 rfl (.agg z32) zeroSc z32 rfl ?_; intro sb w5 hsb Bs0 k5)
            | (refine store_w Bs0 rfl 24 _ _ (feC V) rfl rfl rfl feInfo rfl (feC_one _) ?_; intro w6 Bs k6)
            | (go_at_call 8; refine (numS E hw _).mono ?_; rintro e w' ⟨rfl, rfl⟩))
          have HS1 : Hid (wr1.heap.size ≤ sb) := by have := k3.size; have := k4.size; show wr1.heap.size ≤ sb; omega
          have C6 := ((k3.trans1 k4).trans1 k5).new k6 HS1.out
          refine (HIS.out _ C6).mono ?_
          rintro e w7 ⟨rfl, k7⟩
          go_wp2_with fail
          go_ret
          exact ⟨rfl, (C.trans1 C6).trans1 k7⟩
        · exact absurd hb h0
end Go.Proofs.YtcagkcglmcafgaaGreat
