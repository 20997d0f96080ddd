/- ScalarFermat: the walk, its end. -/
import Derived.Test.YtcdgkhejbdlapabSfK
import Derived.Deep.DeepCutAuto
import Derived.Deep.CutBlock
set_option linter.unusedVariables false
set_option linter.unusedSimpArgs false
set_option linter.unnecessarySimpa false
namespace Go.Proofs.Ytcdgkhejbdlapab
open Go.RowKit N

attribute [local irreducible] orf hfb hfm yC cat nb pw leg ml ng iv sm zx
set_option maxHeartbeats 16000000 in
set_option maxRecDepth 100000 in
theorem fermat_t3 {c0 c1 c6 c7 c8 c9 c10 c11 c12 c13 c14 c15 c16 c17 c18 c19 c20 c21 c22 c23 c24 c25 c26 c27 c28 c29 c30 c31 c32 c33 c34 c35 c36 c37 c38 c39 c40 c41 c42 c43 c44 c45 c46 c47 c48 c49 c50 c51 c52 c53 c54 c55 c56 c57 c58 c59 c60 c61 c62 c63 c64 c65 c66 c67 c68 c69 c70 c71 c72 c73 c74 c75 c76 c77 c78 c79 c80 c81 c82 c83 c84 c85 c86 c87 c88 c89 c90 c91 c92 c93 c94 c95 c96 c97 c98 c99 c100 c101 c102 c103 c104 c105 c106 c107 c108 c109 c110 c111 c112 c113 c114 c115 c116 c117 c118 c119 c120 c121 c122 c123 c124 c125 c126 c127 c128 c129 c130 c131 c132 c133 c134 c135 c136 c137 c138 c139 c140 c141 c142 c143 c144 c145 c146 c147 c148 c149 c150 c151 c152 c153 c154 c155 c156 c157 c158 c159 c160 c161 c162 c163 c164 c165 c166 c167 : Value} (a b mab : Int) (ra : R256 a) (rb : R256 b) (rmab : R256 mab) (ve vf : Value) (n1 n2 : Nat) (f1 f2 : Nat → Nat) (ga gb : Nat) (w y10 : World) (Hmab : Hid (ml a b = mab)) (F0 : Blk y10 ga (feC a) 23) (F1 : Blk y10 gb (feC b) 23) (hE : Sl y10 ve n1 f1) (hF : Sl y10 vf n2 f2) (CC : Chg w y10 []) :
    Code.wp Try.prog code23 (bodyPost Try.prog Try.f4 (fun e w' => e = .returned (.bool true) ∧ Chg w w' [])) ⟨#[c0, c1, ve, vf, .pointer (some ⟨ga, 0, none⟩), .pointer (some ⟨gb, 0, none⟩), c6, c7, c8, c9, c10, c11, c12, c13, c14, c15, c16, c17, c18, c19, c20, c21, c22, c23, c24, c25, c26, c27, c28, c29, c30, c31, c32, c33, c34, c35, c36, c37, c38, c39, c40, c41, c42, c43, c44, c45, c46, c47, c48, c49, c50, c51, c52, c53, c54, c55, c56, c57, c58, c59, c60, c61, c62, c63, c64, c65, c66, c67, c68, c69, c70, c71, c72, c73, c74, c75, c76, c77, c78, c79, c80, c81, c82, c83, c84, c85, c86, c87, c88, c89, c90, c91, c92, c93, c94, c95, c96, c97, c98, c99, c100, c101, c102, c103, c104, c105, c106, c107, c108, c109, c110, c111, c112, c113, c114, c115, c116, c117, c118, c119, c120, c121, c122, c123, c124, c125, c126, c127, c128, c129, c130, c131, c132, c133, c134, c135, c136, c137, c138, c139, c140, c141, c142, c143, c144, c145, c146, c147, c148, c149, c150, c151, c152, c153, c154, c155, c156, c157, c158, c159, c160, c161, c162, c163, c164, c165, c166, c167], []⟩ y10 := by
  have hge := feGuard
  conv => arg 2; whnf
  obtain ⟨pe, ce, rfl, _, _⟩ := sl_form hE
  obtain ⟨pf, cf, rfl, _, _⟩ := sl_form hF
  go_upto_if 116 with fail
  go_cut [2] (fun t2 wc => ∃ k, k ≤ 40 ∧ Chg y10 wc [] ∧ Sl wc t2 k f1)
  case first =>
    by_cases h : 40 < n1
    · have hI : (40 : Int) < (n1 : Int) := by omega
      obtain ⟨g, o, cap, e0, h1, h2, hs⟩ := hE.take 40 h
      obtain ⟨rfl, rfl⟩ : _ = _ ∧ _ = _ := by simpa using e0
      go_wp2_with fail
      go_meet
      case rel => exact ⟨40, by decide, Chg.refl _ _, hs⟩
    · have hI : ¬ (40 : Int) < (n1 : Int) := by omega
      go_wp2_with fail
      go_meet
      case rel => exact ⟨n1, by omega, Chg.refl _ _, hE⟩
  case rest =>
    obtain ⟨k1, hk1, k, hE1⟩ := hcut
    replace F0 := F0.chg k (by simp)
    replace F1 := F1.chg k (by simp)
    replace hF := hF.chg k (Off.nil _)
    replace CC := CC.trans1 k
    clear k hE
    generalize wc = y11 at *
    go_upto_if 121 with fail
    go_cut [3] (fun t3 wc => ∃ k, k ≤ 40 ∧ Chg y11 wc [] ∧ Sl wc t3 k f2)
    case first =>
      by_cases h : 40 < n2
      · have hI : (40 : Int) < (n2 : Int) := by omega
        obtain ⟨g, o, cap, e0, h1, h2, hs⟩ := hF.take 40 h
        obtain ⟨rfl, rfl⟩ : _ = _ ∧ _ = _ := by simpa using e0
        go_wp2_with fail
        go_meet
        case rel => exact ⟨40, by decide, Chg.refl _ _, hs⟩
      · have hI : ¬ (40 : Int) < (n2 : Int) := by omega
        go_wp2_with fail
        go_meet
        case rel => exact ⟨n2, by omega, Chg.refl _ _, hF⟩
    case rest =>
      obtain ⟨k2, hk2, k, hF1⟩ := hcut
      replace F0 := F0.chg k (by simp)
      replace F1 := F1.chg k (by simp)
      replace hE1 := hE1.chg k (Off.nil _)
      replace CC := CC.trans1 k
      clear k hF
      generalize wc = y12 at *
      generalize u2 = ve at *
      generalize u3 = vf at *
      obtain ⟨x, hx⟩ : ∃ x, nb f1 0 k1 = x := ⟨_, rfl⟩
      obtain ⟨y, hy⟩ : ∃ y, nb f2 0 k2 = y := ⟨_, rfl⟩
      obtain ⟨qe, hqe⟩ : ∃ p, pw a x = p := ⟨_, rfl⟩
      obtain ⟨qf, hqf⟩ : ∃ p, pw a y = p := ⟨_, rfl⟩
      obtain ⟨qs, hqs⟩ : ∃ p, pw a (x + y) = p := ⟨_, rfl⟩
      obtain ⟨qb, hqb⟩ : ∃ p, pw b x = p := ⟨_, rfl⟩
      obtain ⟨qq, hqq⟩ : ∃ p, pw qe y = p := ⟨_, rfl⟩
      obtain ⟨qm, hqm⟩ : ∃ p, pw mab x = p := ⟨_, rfl⟩
      have rqe : R256 qe := by rw [← hqe]; exact pw_r _ _
      have rqf : R256 qf := by rw [← hqf]; exact pw_r _ _
      have rqb : R256 qb := by rw [← hqb]; exact pw_r _ _
      have A1 : Hid (pw a (nb f1 0 k1) = qe) := by show pw a (nb f1 0 k1) = qe; rw [hx, hqe]
      have A2 : Hid (pw a (nb f2 0 k2) = qf) := by show pw a (nb f2 0 k2) = qf; rw [hy, hqf]
      have A3 : Hid (pw a (nb (sm (zx f1 k1) (zx f2 k2) (max k1 k2)) 0 (max k1 k2 + 1)) = qs) := by show pw a (nb (sm (zx f1 k1) (zx f2 k2) (max k1 k2)) 0 (max k1 k2 + 1)) = qs; rw [sum_val, hx, hy, hqs]
      have A4 : Hid (ml qe qf = qs) := by show ml qe qf = qs; rw [← hqe, ← hqf, ← hqs, pw_add_is]
      have A5 : Hid (pw qe (nb f2 0 k2) = qq) := by show pw qe (nb f2 0 k2) = qq; rw [hy, hqq]
      have A6 : Hid (pw qf (nb f1 0 k1) = qq) := by show pw qf (nb f1 0 k1) = qq; rw [hx, ← hqq, ← hqf, ← hqe]; exact pw_pw_is a y x
      have A7 : Hid (pw mab (nb f1 0 k1) = qm) := by show pw mab (nb f1 0 k1) = qm; rw [hx, hqm]
      have A8 : Hid (pw b (nb f1 0 k1) = qb) := by show pw b (nb f1 0 k1) = qb; rw [hx, hqb]
      have A9 : Hid (ml qe qb = qm) := by show ml qe qb = qm; rw [← hqm, ← Hmab.out, ← hqe, ← hqb, pw_ml_is]
      have z1 : eqf qs qs = true := eqf_self _
      have z2 : eqf qq qq = true := eqf_self _
      have z3 : eqf qm qm = true := eqf_self _
      have hk1' : k1 ≤ 140737488355328 := by omega
      have hk2' : k2 ≤ 140737488355328 := by omega
      have hk3 : max k1 k2 + 1 ≤ 140737488355328 := by omega
      clear hx hy hqe hqf hqs hqb hqq hqm hk1 hk2
      go_upto_region 27 with fail
      refine wp_region_held_drew (S := fun w' => Chg y12 w' []) (by kernel_rfl) ((Chg.refl y12 _).drew) (fun hHeld => ?_)
      refine wpAnyH_ready (rs := [0]) (by kernel_rfl) (by simp) ?_
      refine AllReadyH.cons (o := _) rfl (fun K hK => ?_) ?_
      ·
        go_simp
        refine (works_true _).mono ?_
        rintro e x0 ⟨rfl, k⟩
        go_wp2_with fail
        refine hK.out _ _ (hHeld.trans1 k) (fun hHeld => ?_)
        clear hK K
        try simp only [Act.put, List.setIfInBounds_toArray, List.set_cons_zero, List.set_cons_succ]
        refine take_val (v := ?_) 1 (some 125) rfl (by kernel_rfl) (by kernel_rfl) (by kernel_rfl) (fun _ _ _ h => h) rfl rfl (fun w hSw => ?_) hHeld ?_
        rotate_left
        · (go_simp; try with_reducible rfl)
        try simp only [Act.put, List.setIfInBounds_toArray, List.set_cons_zero, List.set_cons_succ]
        refine take_load 2 (some 126) (feC a) rfl (by kernel_rfl) (by kernel_rfl) (by kernel_rfl) (fun _ _ _ h => h) rfl rfl 23 _ rfl ga rfl 23 _ (fun w hSw => F0.chg hSw (by simp)) Try.underlying23 rfl (by first | exact feInfo | kernel_rfl) hHeld ?_
        try simp only [Act.put, List.setIfInBounds_toArray, List.set_cons_zero, List.set_cons_succ]
        refine take_val (v := ?_) 3 (some 127) rfl (by kernel_rfl) (by kernel_rfl) (by kernel_rfl) (fun _ _ _ h => h) rfl rfl (fun w hSw => ?_) hHeld ?_
        rotate_left
        · (go_simp; try with_reducible rfl)
        try simp only [Act.put, List.setIfInBounds_toArray, List.set_cons_zero, List.set_cons_succ]
        refine take_val (v := ?_) 4 (some 128) rfl (by kernel_rfl) (by kernel_rfl) (by kernel_rfl) (fun _ _ _ h => h) rfl rfl (fun w hSw => ?_) hHeld ?_
        rotate_left
        · (go_simp; try with_reducible rfl)
        try simp only [Act.put, List.setIfInBounds_toArray, List.set_cons_zero, List.set_cons_succ]
        refine take_load 7 (some 131) (feC a) rfl (by kernel_rfl) (by kernel_rfl) (by kernel_rfl) (fun _ _ _ h => h) rfl rfl 23 _ rfl ga rfl 23 _ (fun w hSw => F0.chg hSw (by simp)) Try.underlying23 rfl (by first | exact feInfo | kernel_rfl) hHeld ?_
        try simp only [Act.put, List.setIfInBounds_toArray, List.set_cons_zero, List.set_cons_succ]
        refine take_val (v := ?_) 8 (some 132) rfl (by kernel_rfl) (by kernel_rfl) (by kernel_rfl) (fun _ _ _ h => h) rfl rfl (fun w hSw => ?_) hHeld ?_
        rotate_left
        · (go_simp; try with_reducible rfl)
        try simp only [Act.put, List.setIfInBounds_toArray, List.set_cons_zero, List.set_cons_succ]
        refine take_load 10 (some 134) (feC a) rfl (by kernel_rfl) (by kernel_rfl) (by kernel_rfl) (fun _ _ _ h => h) rfl rfl 23 _ rfl ga rfl 23 _ (fun w hSw => F0.chg hSw (by simp)) Try.underlying23 rfl (by first | exact feInfo | kernel_rfl) hHeld ?_
        try simp only [Act.put, List.setIfInBounds_toArray, List.set_cons_zero, List.set_cons_succ]
        refine take_val (v := ?_) 11 (some 135) rfl (by kernel_rfl) (by kernel_rfl) (by kernel_rfl) (fun _ _ _ h => h) rfl rfl (fun w hSw => ?_) hHeld ?_
        rotate_left
        · (go_simp; try with_reducible rfl)
        try simp only [Act.put, List.setIfInBounds_toArray, List.set_cons_zero, List.set_cons_succ]
        refine wpAnyH_ready (rs := [5]) (by kernel_rfl) (by simp) ?_
        refine AllReadyH.cons (o := _) rfl (fun K hK => ?_) ?_
        ·
          go_simp
          refine (sum_s ve vf k1 k2 f1 f2 hk1' hk2' _ (hE1.chg hHeld (Off.nil _)) (hF1.chg hHeld (Off.nil _))).mono ?_
          rintro e x5 ⟨vs, rfl, O5, k⟩
          go_wp2_with fail
          refine hK.out _ _ (hHeld.trans1 k) (fun hHeld => ?_)
          clear hK K
          try simp only [Act.put, List.setIfInBounds_toArray, List.set_cons_zero, List.set_cons_succ]
          refine wpAnyH_ready (rs := [6]) (by kernel_rfl) (by simp) ?_
          refine AllReadyH.cons (o := _) rfl (fun K hK => ?_) ?_
          ·
            go_simp
            refine (Power_is a qs ra vs (max k1 k2 + 1) _ hk3 A3.out _ O5.sl).mono ?_
            rintro e x6 ⟨rfl, k⟩
            go_wp2_with fail
            refine hK.out _ _ (hHeld.trans1 k) (fun hHeld => ?_)
            clear hK K
            try simp only [Act.put, List.setIfInBounds_toArray, List.set_cons_zero, List.set_cons_succ]
            refine wpAnyH_ready (rs := [9]) (by kernel_rfl) (by simp) ?_
            refine AllReadyH.cons (o := _) rfl (fun K hK => ?_) ?_
            ·
              go_simp
              refine (Power_is a qe ra ve k1 f1 hk1' A1.out _ (hE1.chg hHeld (Off.nil _))).mono ?_
              rintro e x9 ⟨rfl, k⟩
              go_wp2_with fail
              refine hK.out _ _ (hHeld.trans1 k) (fun hHeld => ?_)
              clear hK K
              try simp only [Act.put, List.setIfInBounds_toArray, List.set_cons_zero, List.set_cons_succ]
              refine wpAnyH_ready (rs := [12]) (by kernel_rfl) (by simp) ?_
              refine AllReadyH.cons (o := _) rfl (fun K hK => ?_) ?_
              ·
                go_simp
                refine (Power_is a qf ra vf k2 f2 hk2' A2.out _ (hF1.chg hHeld (Off.nil _))).mono ?_
                rintro e x12 ⟨rfl, k⟩
                go_wp2_with fail
                refine hK.out _ _ (hHeld.trans1 k) (fun hHeld => ?_)
                clear hK K
                try simp only [Act.put, List.setIfInBounds_toArray, List.set_cons_zero, List.set_cons_succ]
                refine wpAnyH_ready (rs := [13]) (by kernel_rfl) (by simp) ?_
                refine AllReadyH.cons (o := _) rfl (fun K hK => ?_) ?_
                ·
                  go_simp
                  refine (Mul_is qe qf qs rqe rqf A4.out _).mono ?_
                  rintro e x13 ⟨rfl, k⟩
                  go_wp2_with fail
                  refine hK.out _ _ (hHeld.trans1 k) (fun hHeld => ?_)
                  clear hK K
                  try simp only [Act.put, List.setIfInBounds_toArray, List.set_cons_zero, List.set_cons_succ]
                  refine take_val (v := (.bool true)) 14 (some 138) rfl (by kernel_rfl) (by kernel_rfl) (by kernel_rfl) (fun _ _ _ h => h) rfl rfl (fun w hSw => ?_) hHeld ?_
                  · (go_simp; try with_reducible rfl)
                  try simp only [Act.put, List.setIfInBounds_toArray, List.set_cons_zero, List.set_cons_succ]
                  refine take_val (v := ?_) 15 (some 139) rfl (by kernel_rfl) (by kernel_rfl) (by kernel_rfl) (fun _ _ _ h => h) rfl rfl (fun w hSw => ?_) hHeld ?_
                  rotate_left
                  · (go_simp; try with_reducible rfl)
                  try simp only [Act.put, List.setIfInBounds_toArray, List.set_cons_zero, List.set_cons_succ]
                  refine take_val (v := ?_) 16 (some 140) rfl (by kernel_rfl) (by kernel_rfl) (by kernel_rfl) (fun _ _ _ h => h) rfl rfl (fun w hSw => ?_) hHeld ?_
                  rotate_left
                  · (go_simp; try with_reducible rfl)
                  try simp only [Act.put, List.setIfInBounds_toArray, List.set_cons_zero, List.set_cons_succ]
                  refine take_load 17 (some 141) (feC a) rfl (by kernel_rfl) (by kernel_rfl) (by kernel_rfl) (fun _ _ _ h => h) rfl rfl 23 _ rfl ga rfl 23 _ (fun w hSw => F0.chg hSw (by simp)) Try.underlying23 rfl (by first | exact feInfo | kernel_rfl) hHeld ?_
                  try simp only [Act.put, List.setIfInBounds_toArray, List.set_cons_zero, List.set_cons_succ]
                  refine take_val (v := ?_) 18 (some 142) rfl (by kernel_rfl) (by kernel_rfl) (by kernel_rfl) (fun _ _ _ h => h) rfl rfl (fun w hSw => ?_) hHeld ?_
                  rotate_left
                  · (go_simp; try with_reducible rfl)
                  try simp only [Act.put, List.setIfInBounds_toArray, List.set_cons_zero, List.set_cons_succ]
                  refine take_val (v := ?_) 20 (some 144) rfl (by kernel_rfl) (by kernel_rfl) (by kernel_rfl) (fun _ _ _ h => h) rfl rfl (fun w hSw => ?_) hHeld ?_
                  rotate_left
                  · (go_simp; try with_reducible rfl)
                  try simp only [Act.put, List.setIfInBounds_toArray, List.set_cons_zero, List.set_cons_succ]
                  refine take_load 22 (some 146) (feC a) rfl (by kernel_rfl) (by kernel_rfl) (by kernel_rfl) (fun _ _ _ h => h) rfl rfl 23 _ rfl ga rfl 23 _ (fun w hSw => F0.chg hSw (by simp)) Try.underlying23 rfl (by first | exact feInfo | kernel_rfl) hHeld ?_
                  try simp only [Act.put, List.setIfInBounds_toArray, List.set_cons_zero, List.set_cons_succ]
                  refine take_val (v := ?_) 23 (some 147) rfl (by kernel_rfl) (by kernel_rfl) (by kernel_rfl) (fun _ _ _ h => h) rfl rfl (fun w hSw => ?_) hHeld ?_
                  rotate_left
                  · (go_simp; try with_reducible rfl)
                  try simp only [Act.put, List.setIfInBounds_toArray, List.set_cons_zero, List.set_cons_succ]
                  refine take_val (v := ?_) 25 (some 149) rfl (by kernel_rfl) (by kernel_rfl) (by kernel_rfl) (fun _ _ _ h => h) rfl rfl (fun w hSw => ?_) hHeld ?_
                  rotate_left
                  · (go_simp; try with_reducible rfl)
                  try simp only [Act.put, List.setIfInBounds_toArray, List.set_cons_zero, List.set_cons_succ]
                  refine wpAnyH_ready (rs := [19]) (by kernel_rfl) (by simp) ?_
                  refine AllReadyH.cons (o := _) rfl (fun K hK => ?_) ?_
                  ·
                    go_simp
                    refine (Power_is a qe ra ve k1 f1 hk1' A1.out _ (hE1.chg hHeld (Off.nil _))).mono ?_
                    rintro e x19 ⟨rfl, k⟩
                    go_wp2_with fail
                    refine hK.out _ _ (hHeld.trans1 k) (fun hHeld => ?_)
                    clear hK K
                    try simp only [Act.put, List.setIfInBounds_toArray, List.set_cons_zero, List.set_cons_succ]
                    refine wpAnyH_ready (rs := [21]) (by kernel_rfl) (by simp) ?_
                    refine AllReadyH.cons (o := _) rfl (fun K hK => ?_) ?_
                    ·
                      go_simp
                      refine (Power_is qe qq rqe vf k2 f2 hk2' A5.out _ (hF1.chg hHeld (Off.nil _))).mono ?_
                      rintro e x21 ⟨rfl, k⟩
                      go_wp2_with fail
                      refine hK.out _ _ (hHeld.trans1 k) (fun hHeld => ?_)
                      clear hK K
                      try simp only [Act.put, List.setIfInBounds_toArray, List.set_cons_zero, List.set_cons_succ]
                      refine wpAnyH_ready (rs := [24]) (by kernel_rfl) (by simp) ?_
                      refine AllReadyH.cons (o := _) rfl (fun K hK => ?_) ?_
                      ·
                        go_simp
                        refine (Power_is a qf ra vf k2 f2 hk2' A2.out _ (hF1.chg hHeld (Off.nil _))).mono ?_
                        rintro e x24 ⟨rfl, k⟩
                        go_wp2_with fail
                        refine hK.out _ _ (hHeld.trans1 k) (fun hHeld => ?_)
                        clear hK K
                        try simp only [Act.put, List.setIfInBounds_toArray, List.set_cons_zero, List.set_cons_succ]
                        refine wpAnyH_ready (rs := [26]) (by kernel_rfl) (by simp) ?_
                        refine AllReadyH.cons (o := _) rfl (fun K hK => ?_) ?_
                        ·
                          go_simp
                          refine (Power_is qf qq rqf ve k1 f1 hk1' A6.out _ (hE1.chg hHeld (Off.nil _))).mono ?_
                          rintro e x26 ⟨rfl, k⟩
                          go_wp2_with fail
                          refine hK.out _ _ (hHeld.trans1 k) (fun hHeld => ?_)
                          clear hK K
                          try simp only [Act.put, List.setIfInBounds_toArray, List.set_cons_zero, List.set_cons_succ]
                          refine take_val (v := (.bool true)) 27 (some 151) rfl (by kernel_rfl) (by kernel_rfl) (by kernel_rfl) (fun _ _ _ h => h) rfl rfl (fun w hSw => ?_) hHeld ?_
                          · (go_simp; try with_reducible rfl)
                          try simp only [Act.put, List.setIfInBounds_toArray, List.set_cons_zero, List.set_cons_succ]
                          refine take_val (v := ?_) 28 (some 152) rfl (by kernel_rfl) (by kernel_rfl) (by kernel_rfl) (fun _ _ _ h => h) rfl rfl (fun w hSw => ?_) hHeld ?_
                          rotate_left
                          · (go_simp; try with_reducible rfl)
                          try simp only [Act.put, List.setIfInBounds_toArray, List.set_cons_zero, List.set_cons_succ]
                          refine take_val (v := ?_) 29 (some 153) rfl (by kernel_rfl) (by kernel_rfl) (by kernel_rfl) (fun _ _ _ h => h) rfl rfl (fun w hSw => ?_) hHeld ?_
                          rotate_left
                          · (go_simp; try with_reducible rfl)
                          try simp only [Act.put, List.setIfInBounds_toArray, List.set_cons_zero, List.set_cons_succ]
                          refine take_load 30 (some 154) (feC a) rfl (by kernel_rfl) (by kernel_rfl) (by kernel_rfl) (fun _ _ _ h => h) rfl rfl 23 _ rfl ga rfl 23 _ (fun w hSw => F0.chg hSw (by simp)) Try.underlying23 rfl (by first | exact feInfo | kernel_rfl) hHeld ?_
                          try simp only [Act.put, List.setIfInBounds_toArray, List.set_cons_zero, List.set_cons_succ]
                          refine take_load 31 (some 155) (feC b) rfl (by kernel_rfl) (by kernel_rfl) (by kernel_rfl) (fun _ _ _ h => h) rfl rfl 23 _ rfl gb rfl 23 _ (fun w hSw => F1.chg hSw (by simp)) Try.underlying23 rfl (by first | exact feInfo | kernel_rfl) hHeld ?_
                          try simp only [Act.put, List.setIfInBounds_toArray, List.set_cons_zero, List.set_cons_succ]
                          refine take_val (v := ?_) 33 (some 157) rfl (by kernel_rfl) (by kernel_rfl) (by kernel_rfl) (fun _ _ _ h => h) rfl rfl (fun w hSw => ?_) hHeld ?_
                          rotate_left
                          · (go_simp; try with_reducible rfl)
                          try simp only [Act.put, List.setIfInBounds_toArray, List.set_cons_zero, List.set_cons_succ]
                          refine take_load 35 (some 159) (feC a) rfl (by kernel_rfl) (by kernel_rfl) (by kernel_rfl) (fun _ _ _ h => h) rfl rfl 23 _ rfl ga rfl 23 _ (fun w hSw => F0.chg hSw (by simp)) Try.underlying23 rfl (by first | exact feInfo | kernel_rfl) hHeld ?_
                          try simp only [Act.put, List.setIfInBounds_toArray, List.set_cons_zero, List.set_cons_succ]
                          refine take_val (v := ?_) 36 (some 160) rfl (by kernel_rfl) (by kernel_rfl) (by kernel_rfl) (fun _ _ _ h => h) rfl rfl (fun w hSw => ?_) hHeld ?_
                          rotate_left
                          · (go_simp; try with_reducible rfl)
                          try simp only [Act.put, List.setIfInBounds_toArray, List.set_cons_zero, List.set_cons_succ]
                          refine take_load 38 (some 162) (feC b) rfl (by kernel_rfl) (by kernel_rfl) (by kernel_rfl) (fun _ _ _ h => h) rfl rfl 23 _ rfl gb rfl 23 _ (fun w hSw => F1.chg hSw (by simp)) Try.underlying23 rfl (by first | exact feInfo | kernel_rfl) hHeld ?_
                          try simp only [Act.put, List.setIfInBounds_toArray, List.set_cons_zero, List.set_cons_succ]
                          refine take_val (v := ?_) 39 (some 163) rfl (by kernel_rfl) (by kernel_rfl) (by kernel_rfl) (fun _ _ _ h => h) rfl rfl (fun w hSw => ?_) hHeld ?_
                          rotate_left
                          · (go_simp; try with_reducible rfl)
                          try simp only [Act.put, List.setIfInBounds_toArray, List.set_cons_zero, List.set_cons_succ]
                          refine wpAnyH_ready (rs := [32]) (by kernel_rfl) (by simp) ?_
                          refine AllReadyH.cons (o := _) rfl (fun K hK => ?_) ?_
                          ·
                            go_simp
                            refine (Mul_is a b mab ra rb Hmab.out _).mono ?_
                            rintro e x32 ⟨rfl, k⟩
                            go_wp2_with fail
                            refine hK.out _ _ (hHeld.trans1 k) (fun hHeld => ?_)
                            clear hK K
                            try simp only [Act.put, List.setIfInBounds_toArray, List.set_cons_zero, List.set_cons_succ]
                            refine wpAnyH_ready (rs := [34]) (by kernel_rfl) (by simp) ?_
                            refine AllReadyH.cons (o := _) rfl (fun K hK => ?_) ?_
                            ·
                              go_simp
                              refine (Power_is mab qm rmab ve k1 f1 hk1' A7.out _ (hE1.chg hHeld (Off.nil _))).mono ?_
                              rintro e x34 ⟨rfl, k⟩
                              go_wp2_with fail
                              refine hK.out _ _ (hHeld.trans1 k) (fun hHeld => ?_)
                              clear hK K
                              try simp only [Act.put, List.setIfInBounds_toArray, List.set_cons_zero, List.set_cons_succ]
                              refine wpAnyH_ready (rs := [37]) (by kernel_rfl) (by simp) ?_
                              refine AllReadyH.cons (o := _) rfl (fun K hK => ?_) ?_
                              ·
                                go_simp
                                refine (Power_is a qe ra ve k1 f1 hk1' A1.out _ (hE1.chg hHeld (Off.nil _))).mono ?_
                                rintro e x37 ⟨rfl, k⟩
                                go_wp2_with fail
                                refine hK.out _ _ (hHeld.trans1 k) (fun hHeld => ?_)
                                clear hK K
                                try simp only [Act.put, List.setIfInBounds_toArray, List.set_cons_zero, List.set_cons_succ]
                                refine wpAnyH_ready (rs := [40]) (by kernel_rfl) (by simp) ?_
                                refine AllReadyH.cons (o := _) rfl (fun K hK => ?_) ?_
                                ·
                                  go_simp
                                  refine (Power_is b qb rb ve k1 f1 hk1' A8.out _ (hE1.chg hHeld (Off.nil _))).mono ?_
                                  rintro e x40 ⟨rfl, k⟩
                                  go_wp2_with fail
                                  refine hK.out _ _ (hHeld.trans1 k) (fun hHeld => ?_)
                                  clear hK K
                                  try simp only [Act.put, List.setIfInBounds_toArray, List.set_cons_zero, List.set_cons_succ]
                                  refine wpAnyH_ready (rs := [41]) (by kernel_rfl) (by simp) ?_
                                  refine AllReadyH.cons (o := _) rfl (fun K hK => ?_) ?_
                                  ·
                                    go_simp
                                    refine (Mul_is qe qb qm rqe rqb A9.out _).mono ?_
                                    rintro e x41 ⟨rfl, k⟩
                                    go_wp2_with fail
                                    refine hK.out _ _ (hHeld.trans1 k) (fun hHeld => ?_)
                                    clear hK K
                                    try simp only [Act.put, List.setIfInBounds_toArray, List.set_cons_zero, List.set_cons_succ]
                                    refine take_val (v := (.bool true)) 42 (some 166) rfl (by kernel_rfl) (by kernel_rfl) (by kernel_rfl) (fun _ _ _ h => h) rfl rfl (fun w hSw => ?_) hHeld ?_
                                    · (go_simp; try with_reducible rfl)
                                    try simp only [Act.put, List.setIfInBounds_toArray, List.set_cons_zero, List.set_cons_succ]
                                    refine take_val (v := ?_) 43 (some 167) rfl (by kernel_rfl) (by kernel_rfl) (by kernel_rfl) (fun _ _ _ h => h) rfl rfl (fun w hSw => ?_) hHeld ?_
                                    rotate_left
                                    · (go_simp; try with_reducible rfl)
                                    try simp only [Act.put, List.setIfInBounds_toArray, List.set_cons_zero, List.set_cons_succ]
                                    refine take_val (v := ?_) 44 (some 8) rfl (by kernel_rfl) (by kernel_rfl) (by kernel_rfl) (fun _ _ _ h => h) rfl rfl (fun w hSw => ?_) hHeld ?_
                                    rotate_left
                                    · (go_simp; try with_reducible rfl)
                                    try simp only [Act.put, List.setIfInBounds_toArray, List.set_cons_zero, List.set_cons_succ]
                                    refine wpAnyH_done (by kernel_rfl) ?_ _
                                    go_wp2_with fail
                                    go_ret
                                    exact ⟨rfl, CC.trans1 hHeld⟩
                                  exact AllReadyH.nil
                                exact AllReadyH.nil
                              exact AllReadyH.nil
                            exact AllReadyH.nil
                          exact AllReadyH.nil
                        exact AllReadyH.nil
                      exact AllReadyH.nil
                    exact AllReadyH.nil
                  exact AllReadyH.nil
                exact AllReadyH.nil
              exact AllReadyH.nil
            exact AllReadyH.nil
          exact AllReadyH.nil
        exact AllReadyH.nil
      exact AllReadyH.nil
end Go.Proofs.Ytcdgkhejbdlapab
