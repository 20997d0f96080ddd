/- ScalarPowers: the walk. -/
import Derived.Test.YtcdgkhejbdlapaaPowW
import Derived.Test.YtcdgkhejbdlapaaWorks
set_option linter.unusedVariables false
set_option linter.unusedSimpArgs false
set_option linter.unnecessarySimpa false
namespace Go.Proofs.Ytcdgkhejbdlapaa
open Go.RowKit N

attribute [local irreducible] gC yC pw pN leg lgr gvf nb
set_option maxHeartbeats 16000000 in
set_option maxRecDepth 100000 in
theorem powers_walk (m : Nat) (hm : m < 115792089237316195423570985008687907853269984665640564039457584007913129639936) (v : Value) (n : Nat) (f : Nat → Nat) (hn : n ≤ 140737488355328) (w : World) (hS : Sl w v n f) :
    Calls Try.prog 6 #[fe (m : Int), v] w fun e w' => e = .returned (.bool true) ∧ Chg w w' [] := by
  have hge := feGuard
  have hf := sl_lt hS
  have ra : R256 (m : Int) := ⟨by omega, by omega⟩
  have hO : Off v [(w.heap.size + 1)] := hS.new _ (by simp)
  obtain ⟨P, hP⟩ : ∃ P, pw (m : Int) (nb f 0 n) = P := ⟨_, rfl⟩
  have HP1 : Hid (pw (m : Int) (nb (gvf f n) 0 n) = P) := by show pw (m : Int) (nb (gvf f n) 0 n) = P; rw [nb_gvf, hP]
  have HP2 : Hid (((pN m (nb f 0 n) : Nat) : Int) = P) := by show ((pN m (nb f 0 n) : Nat) : Int) = P; rw [pI, hP]
  obtain ⟨lg0, hl⟩ : ∃ l, leg (m : Int) = l := ⟨_, rfl⟩
  have HL1 : Hid (leg (m : Int) = lg0) := hl
  have HL2 : Hid (lgr ((pN m 3618502788666131106986593281521497120428558179689953803000975469142727125494 : Nat) : Int) = lg0) := by show lgr ((pN m 3618502788666131106986593281521497120428558179689953803000975469142727125494 : Nat) : Int) = lg0; rw [leg_lgr, hl]
  clear hP hl
  have F0 : Blk ((w.alloc (.cells (feC (m : Int)) 24)).alloc (.cells (#[.slice none 0 0, .slice none 0 0, .slice none 0 0, .slice none 0 0, .slice none 0 0, .slice none 0 0, .slice none 0 0, .slice none 0 0, .slice none 0 0, .slice none 0 0, .slice none 0 0, .slice none 0 0, .slice none 0 0, .slice none 0 0, .slice none 0 0, .slice none 0 0, .slice none 0 0, .slice none 0 0, .slice none 0 0, .slice none 0 0, .slice none 0 0, .slice none 0 0, .slice none 0 0, .slice none 0 0, .slice none 0 0, .slice none 0 0, .slice none 0 0, .slice none 0 0, .slice none 0 0, .slice none 0 0]) 42)) w.heap.size (feC (m : Int)) 24 := (Blk.new w (feC (m : Int)) 24).alloc _
  have G0 : Blk ((w.alloc (.cells (feC (m : Int)) 24)).alloc (.cells (#[.slice none 0 0, .slice none 0 0, .slice none 0 0, .slice none 0 0, .slice none 0 0, .slice none 0 0, .slice none 0 0, .slice none 0 0, .slice none 0 0, .slice none 0 0, .slice none 0 0, .slice none 0 0, .slice none 0 0, .slice none 0 0, .slice none 0 0, .slice none 0 0, .slice none 0 0, .slice none 0 0, .slice none 0 0, .slice none 0 0, .slice none 0 0, .slice none 0 0, .slice none 0 0, .slice none 0 0, .slice none 0 0, .slice none 0 0, .slice none 0 0, .slice none 0 0, .slice none 0 0, .slice none 0 0]) 42)) (w.heap.size + 1) (gC (.slice none 0 0) (.slice none 0 0)) 42 := by rw [gC_lit]; have h := Blk.new (w.alloc (.cells (feC (m : Int)) 24)) (#[.slice none 0 0, .slice none 0 0, .slice none 0 0, .slice none 0 0, .slice none 0 0, .slice none 0 0, .slice none 0 0, .slice none 0 0, .slice none 0 0, .slice none 0 0, .slice none 0 0, .slice none 0 0, .slice none 0 0, .slice none 0 0, .slice none 0 0, .slice none 0 0, .slice none 0 0, .slice none 0 0, .slice none 0 0, .slice none 0 0, .slice none 0 0, .slice none 0 0, .slice none 0 0, .slice none 0 0, .slice none 0 0, .slice none 0 0, .slice none 0 0, .slice none 0 0, .slice none 0 0, .slice none 0 0]) 42; simpa using h
  have CC : Chg w ((w.alloc (.cells (feC (m : Int)) 24)).alloc (.cells (#[.slice none 0 0, .slice none 0 0, .slice none 0 0, .slice none 0 0, .slice none 0 0, .slice none 0 0, .slice none 0 0, .slice none 0 0, .slice none 0 0, .slice none 0 0, .slice none 0 0, .slice none 0 0, .slice none 0 0, .slice none 0 0, .slice none 0 0, .slice none 0 0, .slice none 0 0, .slice none 0 0, .slice none 0 0, .slice none 0 0, .slice none 0 0, .slice none 0 0, .slice none 0 0, .slice none 0 0, .slice none 0 0, .slice none 0 0, .slice none 0 0, .slice none 0 0, .slice none 0 0, .slice none 0 0]) 42)) [] := ((Chg.refl w []).alloc (.cells (feC (m : Int)) 24)).alloc (.cells (#[.slice none 0 0, .slice none 0 0, .slice none 0 0, .slice none 0 0, .slice none 0 0, .slice none 0 0, .slice none 0 0, .slice none 0 0, .slice none 0 0, .slice none 0 0, .slice none 0 0, .slice none 0 0, .slice none 0 0, .slice none 0 0, .slice none 0 0, .slice none 0 0, .slice none 0 0, .slice none 0 0, .slice none 0 0, .slice none 0 0, .slice none 0 0, .slice none 0 0, .slice none 0 0, .slice none 0 0, .slice none 0 0, .slice none 0 0, .slice none 0 0, .slice none 0 0, .slice none 0 0, .slice none 0 0]) 42)
  replace hS := hS.chg CC (hS.new _ (by simp))
  go_enter Try.func6, Try.ntmps6
  go_wp2_with fail
  generalize hv0 : ((w.alloc (.cells (feC (m : Int)) 24)).alloc (.cells (#[.slice none 0 0, .slice none 0 0, .slice none 0 0, .slice none 0 0, .slice none 0 0, .slice none 0 0, .slice none 0 0, .slice none 0 0, .slice none 0 0, .slice none 0 0, .slice none 0 0, .slice none 0 0, .slice none 0 0, .slice none 0 0, .slice none 0 0, .slice none 0 0, .slice none 0 0, .slice none 0 0, .slice none 0 0, .slice none 0 0, .slice none 0 0, .slice none 0 0, .slice none 0 0, .slice none 0 0, .slice none 0 0, .slice none 0 0, .slice none 0 0, .slice none 0 0, .slice none 0 0, .slice none 0 0]) 42)) = v0 at F0 G0 CC hS
  try (change Code.wp _ _ _ _ ((w.alloc (.cells (feC (m : Int)) 24)).alloc (.cells (#[.slice none 0 0, .slice none 0 0, .slice none 0 0, .slice none 0 0, .slice none 0 0, .slice none 0 0, .slice none 0 0, .slice none 0 0, .slice none 0 0, .slice none 0 0, .slice none 0 0, .slice none 0 0, .slice none 0 0, .slice none 0 0, .slice none 0 0, .slice none 0 0, .slice none 0 0, .slice none 0 0, .slice none 0 0, .slice none 0 0, .slice none 0 0, .slice none 0 0, .slice none 0 0, .slice none 0 0, .slice none 0 0, .slice none 0 0, .slice none 0 0, .slice none 0 0, .slice none 0 0, .slice none 0 0]) 42)); rw [hv0])
  clear hv0
  obtain ⟨gb, hgb⟩ : ∃ g, w.heap.size + 1 = g := ⟨_, rfl⟩
  rw [hgb] at hO G0
  try rw [hgb]
  have hgl : w.heap.size ≤ gb := by omega
  have hgn : ¬ w.heap.size = gb := by omega
  clear hgb
  refine wp_region_held_drew (S := fun w' => Chg v0 w' [gb]) (by kernel_rfl) ((Chg.refl v0 _).drew) (fun hHeld => ?_)
  replace G0 := G0.drew
  refine take_load 0 (some 6) (feC (m : Int)) rfl (by kernel_rfl) (by kernel_rfl) (by kernel_rfl) (fun _ _ _ h => h) rfl rfl 24 _ rfl w.heap.size rfl 24 _ (fun w h => F0.chg h (by simpa using hgn)) Try.underlying24 rfl (by first | exact feInfo | kernel_rfl) hHeld ?_
  try simp only [Act.put, List.setIfInBounds_toArray, List.set_cons_zero, List.set_cons_succ]
  refine take_val (v := ?_) 1 (some 7) rfl (by kernel_rfl) (by kernel_rfl) (by kernel_rfl) (fun _ _ _ h => h) rfl rfl (fun w hSw => ?_) hHeld ?_
  rotate_left
  · (go_simp; try with_reducible rfl)
  try simp only [Act.put, List.setIfInBounds_toArray, List.set_cons_zero, List.set_cons_succ]
  refine take_load 4 (some 10) (feC (m : Int)) rfl (by kernel_rfl) (by kernel_rfl) (by kernel_rfl) (fun _ _ _ h => h) rfl rfl 24 _ rfl w.heap.size rfl 24 _ (fun w h => F0.chg h (by simpa using hgn)) Try.underlying24 rfl (by first | exact feInfo | kernel_rfl) hHeld ?_
  try simp only [Act.put, List.setIfInBounds_toArray, List.set_cons_zero, List.set_cons_succ]
  refine take_val (v := ?_) 5 (some 11) rfl (by kernel_rfl) (by kernel_rfl) (by kernel_rfl) (fun _ _ _ h => h) rfl rfl (fun w hSw => ?_) hHeld ?_
  rotate_left
  · (go_simp; try with_reducible rfl)
  try simp only [Act.put, List.setIfInBounds_toArray, List.set_cons_zero, List.set_cons_succ]
  refine wpAnyH_ready (rs := [2]) (by kernel_rfl) (by simp) ?_
  refine AllReadyH.cons (o := _) rfl (fun K hK => ?_) ?_
  ·
    go_simp
    refine (GivenBytes_1 gb n v f (Array.replicate 28 (.slice none 0 0)) _ hn (hS.chg hHeld hO) (by unfold gC at G0; exact G0)).mono ?_
    rintro e x2 ⟨r, rfl, o, la, lb, x, rfl, k, ho, bo, ox, ola, olb, bg⟩
    obtain ⟨lg, lc, rfl, _, _, cl⟩ := ola.form
    obtain ⟨mg, mc, rfl, _, _, cr⟩ := olb.form
    obtain ⟨xg, xc, rfl, _, _, _, bx⟩ := ox.form (by omega)
    have k2 : Chg x2 x2 [] := Chg.refl x2 []
    replace bg : Blk x2 gb (gC (.slice (some ⟨lg, 0, none⟩) 1 lc) (.slice (some ⟨mg, 0, none⟩) 1 mc)) 42 := by unfold gC; exact bg
    clear ola olb ox G0
    go_wp2_with fail
    refine hK.out _ _ (hHeld.trans1 k) (fun hHeld => ?_)
    clear hK K
    try simp only [Act.put, List.setIfInBounds_toArray, List.set_cons_zero, List.set_cons_succ]
    refine wpAnyH_ready (rs := [3]) (by kernel_rfl) (by simp) ?_
    refine AllReadyH.cons (o := _) rfl (fun K hK => ?_) ?_
    ·
      go_simp
      refine (Power_s (m : Int) ra o 0 n (n + 3) (gvf f n) hn _ (bs_yC (bo.chg k2 (by simp)) (by omega) (fun i _ => gvf_lt2 hf i))).mono ?_
      rintro e x3 ⟨rfl, k⟩
      replace k2 := k2.trans1 k
      rw [HP1.out]
      go_wp2_with fail
      refine hK.out _ _ (hHeld.trans1 k.wide) (fun hHeld => ?_)
      clear hK K
      try simp only [Act.put, List.setIfInBounds_toArray, List.set_cons_zero, List.set_cons_succ]
      refine wpAnyH_ready (rs := [6]) (by kernel_rfl) (by simp) ?_
      refine AllReadyH.cons (o := _) rfl (fun K hK => ?_) ?_
      ·
        go_simp
        refine (Power_rs m hm v n f hn _ (hS.chg hHeld hO)).mono ?_
        rintro e x6 ⟨rfl, k⟩
        replace k2 := k2.trans1 k
        rw [HP2.out]
        go_wp2_with fail
        refine hK.out _ _ (hHeld.trans1 k.wide) (fun hHeld => ?_)
        clear hK K
        try simp only [Act.put, List.setIfInBounds_toArray, List.set_cons_zero, List.set_cons_succ]
        refine take_val (v := (.bool true)) 7 (some 13) rfl (by kernel_rfl) (by kernel_rfl) (by kernel_rfl) (fun _ _ _ h => h) rfl rfl (fun w hSw => ?_) hHeld ?_
        · (go_simp; try with_reducible rfl)
        try simp only [Act.put, List.setIfInBounds_toArray, List.set_cons_zero, List.set_cons_succ]
        refine take_val (v := ?_) 8 (some 14) rfl (by kernel_rfl) (by kernel_rfl) (by kernel_rfl) (fun _ _ _ h => h) rfl rfl (fun w hSw => ?_) hHeld ?_
        rotate_left
        · (go_simp; try with_reducible rfl)
        try simp only [Act.put, List.setIfInBounds_toArray, List.set_cons_zero, List.set_cons_succ]
        refine take_load 9 (some 15) (feC (m : Int)) rfl (by kernel_rfl) (by kernel_rfl) (by kernel_rfl) (fun _ _ _ h => h) rfl rfl 24 _ rfl w.heap.size rfl 24 _ (fun w h => F0.chg h (by simpa using hgn)) Try.underlying24 rfl (by first | exact feInfo | kernel_rfl) hHeld ?_
        try simp only [Act.put, List.setIfInBounds_toArray, List.set_cons_zero, List.set_cons_succ]
        refine take_load 11 (some 17) (feC (m : Int)) rfl (by kernel_rfl) (by kernel_rfl) (by kernel_rfl) (fun _ _ _ h => h) rfl rfl 24 _ rfl w.heap.size rfl 24 _ (fun w h => F0.chg h (by simpa using hgn)) Try.underlying24 rfl (by first | exact feInfo | kernel_rfl) hHeld ?_
        try simp only [Act.put, List.setIfInBounds_toArray, List.set_cons_zero, List.set_cons_succ]
        refine wpAnyH_ready (rs := [10]) (by kernel_rfl) (by simp) ?_
        refine AllReadyH.cons (o := _) rfl (fun K hK => ?_) ?_
        ·
          go_simp
          refine (Legendre_s (m : Int) ra _).mono ?_
          rintro e x10 ⟨rfl, k⟩
          replace k2 := k2.trans1 k
          rw [HL1.out]
          go_wp2_with fail
          refine hK.out _ _ (hHeld.trans1 k.wide) (fun hHeld => ?_)
          clear hK K
          try simp only [Act.put, List.setIfInBounds_toArray, List.set_cons_zero, List.set_cons_succ]
          refine wpAnyH_ready (rs := [12]) (by kernel_rfl) (by simp) ?_
          refine AllReadyH.cons (o := _) rfl (fun K hK => ?_) ?_
          ·
            go_simp
            refine (Legendre_r m hm _).mono ?_
            rintro e x12 ⟨rfl, k⟩
            replace k2 := k2.trans1 k
            rw [HL2.out]
            go_wp2_with fail
            refine hK.out _ _ (hHeld.trans1 k.wide) (fun hHeld => ?_)
            clear hK K
            try simp only [Act.put, List.setIfInBounds_toArray, List.set_cons_zero, List.set_cons_succ]
            refine take_val (v := (.bool true)) 13 (some 19) rfl (by kernel_rfl) (by kernel_rfl) (by kernel_rfl) (fun _ _ _ h => h) rfl rfl (fun w hSw => ?_) hHeld ?_
            · (go_simp; try with_reducible rfl)
            try simp only [Act.put, List.setIfInBounds_toArray, List.set_cons_zero, List.set_cons_succ]
            refine take_val (v := ?_) 14 (some 20) rfl (by kernel_rfl) (by kernel_rfl) (by kernel_rfl) (fun _ _ _ h => h) rfl rfl (fun w hSw => ?_) hHeld ?_
            rotate_left
            · (go_simp; try with_reducible rfl)
            try simp only [Act.put, List.setIfInBounds_toArray, List.set_cons_zero, List.set_cons_succ]
            refine take_val (v := ?_) 15 (some 21) rfl (by kernel_rfl) (by kernel_rfl) (by kernel_rfl) (fun _ _ _ h => h) rfl rfl (fun w hSw => ?_) hHeld ?_
            rotate_left
            · (go_simp; try with_reducible rfl)
            try simp only [Act.put, List.setIfInBounds_toArray, List.set_cons_zero, List.set_cons_succ]
            refine wpAnyH_ready (rs := [16]) (by kernel_rfl) (by simp) ?_
            refine AllReadyH.cons (o := _) rfl (fun K hK => ?_) ?_
            ·
              go_simp
              refine (Intact_1 gb (n + 3) o lg lc mg mc xg xc (gvf f n) _ (by omega) (fun i _ => gvf_lt2 hf i) (bg.chg k2 (by simp)) (cell_chg cl k2) (cell_chg cr k2) (bo.chg k2 (by simp)) (bx.chg k2 (by simp))).mono ?_
              rintro e x16 ⟨rfl, k⟩
              replace k2 := k2.trans1 k
              go_wp2_with fail
              refine hK.out _ _ (hHeld.trans1 k.wide) (fun hHeld => ?_)
              clear hK K
              try simp only [Act.put, List.setIfInBounds_toArray, List.set_cons_zero, List.set_cons_succ]
              refine take_val (v := ?_) 17 (some 23) rfl (by kernel_rfl) (by kernel_rfl) (by kernel_rfl) (fun _ _ _ h => h) rfl rfl (fun w hSw => ?_) hHeld ?_
              rotate_left
              · (go_simp; try with_reducible rfl)
              try simp only [Act.put, List.setIfInBounds_toArray, List.set_cons_zero, List.set_cons_succ]
              refine take_val (v := ?_) 18 (some 24) rfl (by kernel_rfl) (by kernel_rfl) (by kernel_rfl) (fun _ _ _ h => h) rfl rfl (fun w hSw => ?_) hHeld ?_
              rotate_left
              · (go_simp; try with_reducible rfl)
              try simp only [Act.put, List.setIfInBounds_toArray, List.set_cons_zero, List.set_cons_succ]
              refine wpAnyH_ready (rs := [19]) (by kernel_rfl) (by simp) ?_
              refine AllReadyH.cons (o := _) rfl (fun K hK => ?_) ?_
              ·
                go_simp
                refine (works_true _).mono ?_
                rintro e x19 ⟨rfl, k⟩
                replace k2 := k2.trans1 k
                go_wp2_with fail
                refine hK.out _ _ (hHeld.trans1 k.wide) (fun hHeld => ?_)
                clear hK K
                try simp only [Act.put, List.setIfInBounds_toArray, List.set_cons_zero, List.set_cons_succ]
                refine take_val (v := ?_) 20 (some 26) rfl (by kernel_rfl) (by kernel_rfl) (by kernel_rfl) (fun _ _ _ h => h) rfl rfl (fun w hSw => ?_) hHeld ?_
                rotate_left
                · (go_simp; try with_reducible rfl)
                try simp only [Act.put, List.setIfInBounds_toArray, List.set_cons_zero, List.set_cons_succ]
                refine take_val (v := ?_) 21 (some 4) rfl (by kernel_rfl) (by kernel_rfl) (by kernel_rfl) (fun _ _ _ h => h) rfl rfl (fun w hSw => ?_) hHeld ?_
                rotate_left
                · (go_simp; try with_reducible rfl)
                try simp only [Act.put, List.setIfInBounds_toArray, List.set_cons_zero, List.set_cons_succ]
                refine wpAnyH_done (by kernel_rfl) ?_ _
                go_wp2_with fail
                go_ret
                exact ⟨rfl, CC.new hHeld (by omega)⟩
              exact AllReadyH.nil
            exact AllReadyH.nil
          exact AllReadyH.nil
        exact AllReadyH.nil
      exact AllReadyH.nil
    exact AllReadyH.nil
  exact AllReadyH.nil
end Go.Proofs.Ytcdgkhejbdlapaa
