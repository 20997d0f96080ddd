/- ScalarFermat: the walk, its middle. -/
import Derived.Test.YtcdgkhejbdlapabSfW3
import Derived.Deep.DeepCutAuto
import Derived.Deep.CutBlock
set_option linter.unusedVariables false
set_option linter.unusedSimpArgs false
set_option linter.unnecessarySimpa false
namespace Go.Proofs.Ytcdgkhejbdlapab
open Go.RowKit N

attribute [local irreducible] orf hfb hfm yC cat nb pw leg ml ng iv sm zx
set_option maxHeartbeats 16000000 in
set_option maxRecDepth 100000 in
theorem fermat_t2 {c6 c7 c10 c11 c12 c14 c16 c17 c18 c19 c20 c21 c22 c23 c24 c25 c26 c27 c28 c29 c30 c31 c32 c33 c34 c35 c36 c37 c38 c39 c40 c41 c42 c43 c44 c45 c46 c47 c48 c49 c50 c51 c52 c53 c54 c55 c56 c57 c58 c59 c60 c61 c62 c63 c64 c65 c66 c67 c68 c69 c70 c71 c72 c73 c74 c75 c76 c77 c78 c79 c80 c81 c82 c83 c84 c85 c86 c87 c88 c89 c90 c91 c92 c93 c94 c95 c96 c97 c98 c99 c100 c101 c102 c103 c104 c105 c106 c107 c108 c109 c110 c111 c112 c113 c114 c115 c116 c117 c118 c119 c120 c121 c122 c123 c124 c125 c126 c127 c128 c129 c130 c131 c132 c133 c134 c135 c136 c137 c138 c139 c140 c141 c142 c143 c144 c145 c146 c147 c148 c149 c150 c151 c152 c153 c154 c155 c156 c157 c158 c159 c160 c161 c162 c163 c164 c165 c166 c167 : Value} (a b : Int) (ra : R256 a) (rb : R256 b) (ve vf : Value) (n1 n2 : Nat) (f1 f2 : Nat → Nat) (Hv la lb mab maa lab laa : Int) (KHv : Hid (pw a (nb hfb 0 32) = Hv)) (HLa : Hid (leg a = la)) (HLb : Hid (leg b = lb)) (Hmab : Hid (ml a b = mab)) (Hmaa : Hid (ml a a = maa)) (rmab : R256 mab) (rmaa : R256 maa) (HLab : Hid (leg mab = lab)) (HLaa : Hid (leg maa = laa)) (HLaaN : Hid (laa = 0 ∨ laa = 1)) (HLav : Hid (la = 0 ∨ la = 1 ∨ la = -1)) (HLbv : Hid (lb = 0 ∨ lb = 1 ∨ lb = -1)) (HLm : Hid (la * lb = lab)) (HLH : Hid ((la = 0 ∧ Hv = 0) ∨ (la = 1 ∧ Hv = 1) ∨ (la = -1 ∧ Hv = ng 1)))
    (ga gb g1 gh cap g15 : Nat) (hc1 : 32 ≤ cap) (hc2 : cap ≤ 9223372036854775807) (w y7 : World) (F0 : Blk y7 ga (feC a) 23) (F1 : Blk y7 gb (feC b) 23) (F2 : Blk y7 g1 (feC 1) 23) (HB : Hc y7 gh hfb) (FW : Blk y7 g15 (feC 0) 23) (d0 : ¬ ga = g15) (d1 : ¬ gb = g15) (d3 : ¬ gh = g15) (CW : w.heap.size ≤ g15) (OE : Off ve [g15]) (OF : Off vf [g15]) (hE : Sl y7 ve n1 f1) (hF : Sl y7 vf n2 f2) (CC : Chg w y7 []) :
    Code.wp Try.prog code14 (bodyPost Try.prog Try.f4 (fun e w' => e = .returned (.bool true) ∧ Chg w w' [])) ⟨#[fe a, fe b, ve, vf, .pointer (some ⟨ga, 0, none⟩), .pointer (some ⟨gb, 0, none⟩), c6, c7, .bool false, .pointer (some ⟨g1, 0, none⟩), c10, c11, c12, .slice (some ⟨gh, 0, none⟩) 32 cap, c14, .pointer (some ⟨g15, 0, none⟩), c16, c17, c18, c19, c20, c21, c22, c23, c24, c25, c26, c27, c28, c29, c30, c31, c32, c33, c34, c35, c36, c37, c38, c39, c40, c41, c42, c43, c44, c45, c46, c47, c48, c49, c50, c51, c52, c53, c54, c55, c56, c57, c58, c59, c60, c61, c62, c63, c64, c65, c66, c67, c68, c69, c70, c71, c72, c73, c74, c75, c76, c77, c78, c79, c80, c81, c82, c83, c84, c85, c86, c87, c88, c89, c90, c91, c92, c93, c94, c95, c96, c97, c98, c99, c100, c101, c102, c103, c104, c105, c106, c107, c108, c109, c110, c111, c112, c113, c114, c115, c116, c117, c118, c119, c120, c121, c122, c123, c124, c125, c126, c127, c128, c129, c130, c131, c132, c133, c134, c135, c136, c137, c138, c139, c140, c141, c142, c143, c144, c145, c146, c147, c148, c149, c150, c151, c152, c153, c154, c155, c156, c157, c158, c159, c160, c161, c162, c163, c164, c165, c166, c167], []⟩ y7 := by
  have hge := feGuard
  conv => arg 2; whnf
  go_wp2_with (refine wpList_load_row rfl 23 _ rfl ga rfl 23 _ (0, 0) _ F0 Try.underlying23 rfl feInfo ?_)
  refine (Leg_is a la ra HLa.out _).mono ?_
  rintro e y8 ⟨rfl, k⟩
  replace F0 := F0.chg k (by simp)
  replace F1 := F1.chg k (by simp)
  replace F2 := F2.chg k (by simp)
  replace HB := HB.chg k (by simp)
  replace FW := FW.chg k (by simp)
  replace hE := hE.chg k (Off.nil _)
  replace hF := hF.chg k (Off.nil _)
  replace CC := CC.trans1 k
  clear k
  go_upto_block 2 with fail
  go_cut [] (fun wc => Blk wc g15 (feC Hv) 23 ∧ Chg y8 wc [g15])
  case first =>
    rcases HLH.out with ⟨rfl, rfl⟩ | ⟨rfl, rfl⟩ | ⟨rfl, e3⟩
    · go_wp2_with fail
      go_meet
      case rel => exact ⟨FW, Chg.refl _ _⟩
    · go_wp2_with (first | (refine wpList_load_row rfl 23 _ rfl g1 rfl 23 _ (0, 0) _ F2 Try.underlying23 rfl feInfo ?_) | (refine wpList_store_row rfl 23 _ _ rfl g15 _ rfl rfl 23 _ FW feInfo rfl (feC_one _) ?_))
      go_meet
      case rel => exact ⟨FW.setRow _, Chg.of (gb_setRow (gb_refl _ _) _)⟩
    · have HN : Hid (ng 1 = Hv) := e3.symm
      clear e3
      go_wp2_with (refine wpList_load_row rfl 23 _ rfl g1 rfl 23 _ (0, 0) _ F2 Try.underlying23 rfl feInfo ?_)
      refine (Neg_is 1 Hv r256_c1 HN.out _).mono ?_
      rintro e y9 ⟨rfl, k⟩
      replace FW := FW.chg k (by simp)
      go_wp2_with (refine wpList_store_row rfl 23 _ _ rfl g15 _ rfl rfl 23 _ FW feInfo rfl (feC_one _) ?_)
      go_meet
      case rel => exact ⟨FW.setRow _, (k.wide).trans1 (Chg.of (gb_setRow (gb_refl _ _) _))⟩
  case rest =>
    obtain ⟨FW', k⟩ := hcut
    replace F0 := F0.chg k (by simpa using d0)
    replace F1 := F1.chg k (by simpa using d1)
    replace HB := HB.chg k (by simpa using d3)
    replace hE := hE.chg k OE
    replace hF := hF.chg k OF
    replace CC := CC.new k CW
    clear k FW F2 OE OF d0 d1 d3 CW
    generalize wc = y9 at *
    have HH := HB.sl (cap := cap) (fun i _ => hfb_lt i) hc1 hc2
    clear HB
    have q1 : eqf Hv Hv = true := eqf_self _
    have e14 : IntKind.i64.wrap (la * lb) = lab := by
      have h := HLm.out
      have hb : -1 ≤ lab ∧ lab ≤ 1 := by rcases HLav.out with e | e | e <;> rcases HLbv.out with e' | e' | e' <;> rw [e, e'] at h <;> omega
      rw [h, IntKind.wrap_i64]
      omega
    have hl2 : ¬ laa = -1 := by rcases HLaaN.out with h | h <;> omega
    have hl1 : (laa == -1) = false := by simpa using hl2
    refine (‹∀ (a : Act) (w : World), Code.wp Try.prog _ _ a w → _› : ∀ (a : Act) (w : World), _ → _) _ _ ?_
    refine wp_seq_k (fun K2 hK2 => ?_)
    go_cut [] (fun wc => Chg y9 wc [])
    case first =>
      go_upto_region 21 with fail
      refine wp_region_held_drew (S := fun w' => Chg y9 w' []) (by kernel_rfl) ((Chg.refl y9 _).drew) (fun hHeld => ?_)
      refine take_load 0 (some 90) (feC a) rfl (by kernel_rfl) (by kernel_rfl) (by kernel_rfl) (fun _ _ _ h => h) rfl rfl 23 _ rfl ga rfl 23 _ (fun w hSw => F0.chg hSw (by simp)) Try.underlying23 rfl (by first | exact feInfo | kernel_rfl) hHeld ?_
      try simp only [Act.put, List.setIfInBounds_toArray, List.set_cons_zero, List.set_cons_succ]
      refine take_val (v := ?_) 1 (some 91) rfl (by kernel_rfl) (by kernel_rfl) (by kernel_rfl) (fun _ _ _ h => h) rfl rfl (fun w hSw => ?_) hHeld ?_
      rotate_left
      · (go_simp; try with_reducible rfl)
      try simp only [Act.put, List.setIfInBounds_toArray, List.set_cons_zero, List.set_cons_succ]
      refine take_load 3 (some 93) (feC Hv) rfl (by kernel_rfl) (by kernel_rfl) (by kernel_rfl) (fun _ _ _ h => h) rfl rfl 23 _ rfl g15 rfl 23 _ (fun w hSw => FW'.chg hSw (by simp)) Try.underlying23 rfl (by first | exact feInfo | kernel_rfl) hHeld ?_
      try simp only [Act.put, List.setIfInBounds_toArray, List.set_cons_zero, List.set_cons_succ]
      refine wpAnyH_ready (rs := [2]) (by kernel_rfl) (by simp) ?_
      refine AllReadyH.cons (o := _) rfl (fun K hK => ?_) ?_
      ·
        go_simp
        refine (Power_is a Hv ra _ 32 hfb (by decide) KHv.out _ (HH.chg hHeld (Off.nil _))).mono ?_
        rintro e x2 ⟨rfl, k⟩
        go_wp2_with fail
        refine hK.out _ _ (hHeld.trans1 k) (fun hHeld => ?_)
        clear hK K
        try simp only [Act.put, List.setIfInBounds_toArray, List.set_cons_zero, List.set_cons_succ]
        refine take_val (v := (.bool false)) 4 (some 94) rfl (by kernel_rfl) (by kernel_rfl) (by kernel_rfl) (fun _ _ _ h => h) rfl rfl (fun w hSw => ?_) hHeld ?_
        · (go_simp; try with_reducible rfl)
        try simp only [Act.put, List.setIfInBounds_toArray, List.set_cons_zero, List.set_cons_succ]
        refine take_val (v := ?_) 5 (some 95) rfl (by kernel_rfl) (by kernel_rfl) (by kernel_rfl) (fun _ _ _ h => h) rfl rfl (fun w hSw => ?_) hHeld ?_
        rotate_left
        · (go_simp; try with_reducible rfl)
        try simp only [Act.put, List.setIfInBounds_toArray, List.set_cons_zero, List.set_cons_succ]
        refine take_load 6 (some 96) (feC a) rfl (by kernel_rfl) (by kernel_rfl) (by kernel_rfl) (fun _ _ _ h => h) rfl rfl 23 _ rfl ga rfl 23 _ (fun w hSw => F0.chg hSw (by simp)) Try.underlying23 rfl (by first | exact feInfo | kernel_rfl) hHeld ?_
        try simp only [Act.put, List.setIfInBounds_toArray, List.set_cons_zero, List.set_cons_succ]
        refine take_load 7 (some 97) (feC b) rfl (by kernel_rfl) (by kernel_rfl) (by kernel_rfl) (fun _ _ _ h => h) rfl rfl 23 _ rfl gb rfl 23 _ (fun w hSw => F1.chg hSw (by simp)) Try.underlying23 rfl (by first | exact feInfo | kernel_rfl) hHeld ?_
        try simp only [Act.put, List.setIfInBounds_toArray, List.set_cons_zero, List.set_cons_succ]
        refine take_load 10 (some 100) (feC a) rfl (by kernel_rfl) (by kernel_rfl) (by kernel_rfl) (fun _ _ _ h => h) rfl rfl 23 _ rfl ga rfl 23 _ (fun w hSw => F0.chg hSw (by simp)) Try.underlying23 rfl (by first | exact feInfo | kernel_rfl) hHeld ?_
        try simp only [Act.put, List.setIfInBounds_toArray, List.set_cons_zero, List.set_cons_succ]
        refine take_load 12 (some 102) (feC b) rfl (by kernel_rfl) (by kernel_rfl) (by kernel_rfl) (fun _ _ _ h => h) rfl rfl 23 _ rfl gb rfl 23 _ (fun w hSw => F1.chg hSw (by simp)) Try.underlying23 rfl (by first | exact feInfo | kernel_rfl) hHeld ?_
        try simp only [Act.put, List.setIfInBounds_toArray, List.set_cons_zero, List.set_cons_succ]
        refine wpAnyH_ready (rs := [8]) (by kernel_rfl) (by simp) ?_
        refine AllReadyH.cons (o := _) rfl (fun K hK => ?_) ?_
        ·
          go_simp
          refine (Mul_is a b mab ra rb Hmab.out _).mono ?_
          rintro e x8 ⟨rfl, k⟩
          go_wp2_with fail
          refine hK.out _ _ (hHeld.trans1 k) (fun hHeld => ?_)
          clear hK K
          try simp only [Act.put, List.setIfInBounds_toArray, List.set_cons_zero, List.set_cons_succ]
          refine wpAnyH_ready (rs := [9]) (by kernel_rfl) (by simp) ?_
          refine AllReadyH.cons (o := _) rfl (fun K hK => ?_) ?_
          ·
            go_simp
            refine (Leg_is mab lab rmab HLab.out _).mono ?_
            rintro e x9 ⟨rfl, k⟩
            go_wp2_with fail
            refine hK.out _ _ (hHeld.trans1 k) (fun hHeld => ?_)
            clear hK K
            try simp only [Act.put, List.setIfInBounds_toArray, List.set_cons_zero, List.set_cons_succ]
            refine wpAnyH_ready (rs := [11]) (by kernel_rfl) (by simp) ?_
            refine AllReadyH.cons (o := _) rfl (fun K hK => ?_) ?_
            ·
              go_simp
              refine (Leg_is a la ra HLa.out _).mono ?_
              rintro e x11 ⟨rfl, k⟩
              go_wp2_with fail
              refine hK.out _ _ (hHeld.trans1 k) (fun hHeld => ?_)
              clear hK K
              try simp only [Act.put, List.setIfInBounds_toArray, List.set_cons_zero, List.set_cons_succ]
              refine wpAnyH_ready (rs := [13]) (by kernel_rfl) (by simp) ?_
              refine AllReadyH.cons (o := _) rfl (fun K hK => ?_) ?_
              ·
                go_simp
                refine (Leg_is b lb rb HLb.out _).mono ?_
                rintro e x13 ⟨rfl, k⟩
                go_wp2_with fail
                refine hK.out _ _ (hHeld.trans1 k) (fun hHeld => ?_)
                clear hK K
                try simp only [Act.put, List.setIfInBounds_toArray, List.set_cons_zero, List.set_cons_succ]
                refine take_val (v := (.int .i64 lab)) 14 (some 104) rfl (by kernel_rfl) (by kernel_rfl) (by kernel_rfl) (fun _ _ _ h => h) rfl rfl (fun w hSw => ?_) hHeld ?_
                · (go_simp; try with_reducible rfl)
                try simp only [Act.put, List.setIfInBounds_toArray, List.set_cons_zero, List.set_cons_succ]
                refine take_val (v := (.bool false)) 15 (some 105) rfl (by kernel_rfl) (by kernel_rfl) (by kernel_rfl) (fun _ _ _ h => h) rfl rfl (fun w hSw => ?_) hHeld ?_
                · (go_simp; try with_reducible rfl)
                try simp only [Act.put, List.setIfInBounds_toArray, List.set_cons_zero, List.set_cons_succ]
                refine take_val (v := ?_) 16 (some 106) rfl (by kernel_rfl) (by kernel_rfl) (by kernel_rfl) (fun _ _ _ h => h) rfl rfl (fun w hSw => ?_) hHeld ?_
                rotate_left
                · (go_simp; try with_reducible rfl)
                try simp only [Act.put, List.setIfInBounds_toArray, List.set_cons_zero, List.set_cons_succ]
                refine take_val (v := ?_) 17 (some 107) rfl (by kernel_rfl) (by kernel_rfl) (by kernel_rfl) (fun _ _ _ h => h) rfl rfl (fun w hSw => ?_) hHeld ?_
                rotate_left
                · (go_simp; try with_reducible rfl)
                try simp only [Act.put, List.setIfInBounds_toArray, List.set_cons_zero, List.set_cons_succ]
                refine take_load 18 (some 108) (feC a) rfl (by kernel_rfl) (by kernel_rfl) (by kernel_rfl) (fun _ _ _ h => h) rfl rfl 23 _ rfl ga rfl 23 _ (fun w hSw => F0.chg hSw (by simp)) Try.underlying23 rfl (by first | exact feInfo | kernel_rfl) hHeld ?_
                try simp only [Act.put, List.setIfInBounds_toArray, List.set_cons_zero, List.set_cons_succ]
                refine take_load 19 (some 109) (feC a) rfl (by kernel_rfl) (by kernel_rfl) (by kernel_rfl) (fun _ _ _ h => h) rfl rfl 23 _ rfl ga rfl 23 _ (fun w hSw => F0.chg hSw (by simp)) Try.underlying23 rfl (by first | exact feInfo | kernel_rfl) hHeld ?_
                try simp only [Act.put, List.setIfInBounds_toArray, List.set_cons_zero, List.set_cons_succ]
                refine wpAnyH_ready (rs := [20]) (by kernel_rfl) (by simp) ?_
                refine AllReadyH.cons (o := _) rfl (fun K hK => ?_) ?_
                ·
                  go_simp
                  refine (Mul_is a a maa ra ra Hmaa.out _).mono ?_
                  rintro e x20 ⟨rfl, k⟩
                  go_wp2_with fail
                  refine hK.out _ _ (hHeld.trans1 k) (fun hHeld => ?_)
                  clear hK K
                  try simp only [Act.put, List.setIfInBounds_toArray, List.set_cons_zero, List.set_cons_succ]
                  refine wpAnyH_ready (rs := [21]) (by kernel_rfl) (by simp) ?_
                  refine AllReadyH.cons (o := _) rfl (fun K hK => ?_) ?_
                  ·
                    go_simp
                    refine (Leg_is maa laa rmaa HLaa.out _).mono ?_
                    rintro e x21 ⟨rfl, k⟩
                    go_wp2_with fail
                    refine hK.out _ _ (hHeld.trans1 k) (fun hHeld => ?_)
                    clear hK K
                    try simp only [Act.put, List.setIfInBounds_toArray, List.set_cons_zero, List.set_cons_succ]
                    refine take_val (v := (.bool false)) 22 (some 112) rfl (by kernel_rfl) (by kernel_rfl) (by kernel_rfl) (fun _ _ _ h => h) rfl rfl (fun w hSw => ?_) hHeld ?_
                    · (go_simp; try with_reducible rfl)
                    try simp only [Act.put, List.setIfInBounds_toArray, List.set_cons_zero, List.set_cons_succ]
                    refine take_val (v := ?_) 23 (some 113) rfl (by kernel_rfl) (by kernel_rfl) (by kernel_rfl) (fun _ _ _ h => h) rfl rfl (fun w hSw => ?_) hHeld ?_
                    rotate_left
                    · (go_simp; try with_reducible rfl)
                    try simp only [Act.put, List.setIfInBounds_toArray, List.set_cons_zero, List.set_cons_succ]
                    refine wpAnyH_done (by kernel_rfl) ?_ _
                    go_wp2_with fail
                    go_meet
                    case rel => exact hHeld
                  exact AllReadyH.nil
                exact AllReadyH.nil
              exact AllReadyH.nil
            exact AllReadyH.nil
          exact AllReadyH.nil
        exact AllReadyH.nil
      exact AllReadyH.nil
    case rest =>
      have k := hcut
      replace F0 := F0.chg k (by simp)
      replace F1 := F1.chg k (by simp)
      replace hE := hE.chg k (Off.nil _)
      replace hF := hF.chg k (Off.nil _)
      replace CC := CC.trans1 k
      clear k
      refine hK2 _ _ ?_
      exact fermat_t3 a b mab ra rb rmab ve vf n1 n2 f1 f2 ga gb w _ Hmab F0 F1 hE hF CC
end Go.Proofs.Ytcdgkhejbdlapab
