/- ScalarFermat: the walk. -/
import Derived.Test.YtcdgkhejbdlapabSfW2
import Derived.Deep.DeepCutAuto
import Derived.Deep.CutBlock
set_option linter.unusedVariables false
set_option linter.unusedSimpArgs false
set_option linter.unnecessarySimpa false
namespace Go.Proofs.Ytcdgkhejbdlapab
open Go.RowKit N

attribute [local irreducible] orf hfb hfm yC cat nb pw leg ml ng iv sm zx
set_option maxHeartbeats 16000000 in
set_option maxRecDepth 100000 in
theorem fermat_walk (a b : Int) (ra : R256 a) (rb : R256 b) (ve vf : Value) (n1 n2 : Nat) (f1 f2 : Nat → Nat) (w : World) (hE : Sl w ve n1 f1) (hF : Sl w vf n2 f2) :
    Calls Try.prog 4 #[fe a, fe b, ve, vf] w fun e w' => e = .returned (.bool true) ∧ Chg w w' [] := by
  have hge := feGuard
  obtain ⟨X, E, hXE, hInv⟩ := Invert_is a ra
  obtain ⟨P1, hP1⟩ : ∃ x, pw a 7237005577332262213973186563042994240857116359379907606001950938285454250988 = x := ⟨_, rfl⟩
  obtain ⟨P2, hP2⟩ : ∃ x, pw a 7237005577332262213973186563042994240857116359379907606001950938285454250987 = x := ⟨_, rfl⟩
  obtain ⟨Hv, hHv⟩ : ∃ x, pw a 3618502788666131106986593281521497120428558179689953803000975469142727125494 = x := ⟨_, rfl⟩
  have KP1 : Hid (pw a (nb (orf 1) 0 32) = P1) := by show pw a (nb (orf 1) 0 32) = P1; rw [orf1_nb, hP1]
  have KP2 : Hid (pw a (nb (orf 2) 0 32) = P2) := by show pw a (nb (orf 2) 0 32) = P2; rw [orf2_nb, hP2]
  have KHv : Hid (pw a (nb hfb 0 32) = Hv) := by show pw a (nb hfb 0 32) = Hv; rw [hfb_nb, hHv]
  have HCA : Hid ((E = 0 ∧ eqf P1 1 = true ∧ eqf P2 X = true) ∨ (E = 9 ∧ eqf P1 0 = true)) := by
    rcases hXE with ⟨h1, h2, h3⟩ | ⟨h1, h2⟩
    · refine Or.inl ⟨h1, ?_, ?_⟩
      · rw [← hP1, pw_unitL a h3]; exact eqf_self _
      · rw [← hP2, h2, iv_is]; exact eqf_self _
    · refine Or.inr ⟨h1, ?_⟩
      rw [← hP1, pw_noughtL a _ (by decide +kernel) h2]; exact eqf_self _
  have HL : Hid ((leg a = 0 ∧ Hv = 0) ∨ (leg a = 1 ∧ Hv = 1) ∨ (leg a = -1 ∧ Hv = ng 1)) := by
    have h := leg_cases a
    unfold eu at h
    rw [hHv] at h
    exact h
  obtain ⟨la, hla⟩ : ∃ x, leg a = x := ⟨_, rfl⟩
  obtain ⟨lb, hlb⟩ : ∃ x, leg b = x := ⟨_, rfl⟩
  obtain ⟨mab, hmab⟩ : ∃ x, ml a b = x := ⟨_, rfl⟩
  obtain ⟨maa, hmaa⟩ : ∃ x, ml a a = x := ⟨_, rfl⟩
  have HLa : Hid (leg a = la) := hla
  have HLb : Hid (leg b = lb) := hlb
  have Hmab : Hid (ml a b = mab) := hmab
  have Hmaa : Hid (ml a a = maa) := hmaa
  have rmab : R256 mab := by rw [← hmab]; exact ml_r _ _
  have rmaa : R256 maa := by rw [← hmaa]; exact ml_r _ _
  obtain ⟨lab, hlab⟩ : ∃ x, leg mab = x := ⟨_, rfl⟩
  obtain ⟨laa, hlaa⟩ : ∃ x, leg maa = x := ⟨_, rfl⟩
  have HLab : Hid (leg mab = lab) := hlab
  have HLaa : Hid (leg maa = laa) := hlaa
  have hlabv : la * lb = lab := by rw [← hlab, ← hmab, ← hla, ← hlb]; exact (leg_ml a b).symm
  have HLaaN : Hid (laa = 0 ∨ laa = 1) := by show laa = 0 ∨ laa = 1; rw [← hlaa, ← hmaa]; exact leg_ml2 a
  have HLav : Hid (la = 0 ∨ la = 1 ∨ la = -1) := by
    show la = 0 ∨ la = 1 ∨ la = -1
    rcases HL.out with ⟨h, _⟩ | ⟨h, _⟩ | ⟨h, _⟩ <;> rw [hla] at h <;> omega
  have HLbv : Hid (lb = 0 ∨ lb = 1 ∨ lb = -1) := by
    show lb = 0 ∨ lb = 1 ∨ lb = -1
    rcases leg_cases b with ⟨h, _⟩ | ⟨h, _⟩ | ⟨h, _⟩ <;> rw [hlb] at h <;> omega
  have HLm : Hid (la * lb = lab) := hlabv
  have HLH : Hid ((la = 0 ∧ Hv = 0) ∨ (la = 1 ∧ Hv = 1) ∨ (la = -1 ∧ Hv = ng 1)) := by have h := HL.out; rw [hla] at h; exact h
  clear hP1 hP2 hHv hXE hla hlb hmab hmaa hlab hlaa hlabv HL
  have F0 : Blk ((((w.alloc (.cells (feC a) 23)).alloc (.cells (feC b) 23)).alloc (.cells z32 23)).setRow (w.heap.size + 1 + 1) (feC 1)) w.heap.size (feC a) 23 := (((Blk.new w (feC a) 23).alloc _).alloc _).setRowOther (by omega) _
  have F1 : Blk ((((w.alloc (.cells (feC a) 23)).alloc (.cells (feC b) 23)).alloc (.cells z32 23)).setRow (w.heap.size + 1 + 1) (feC 1)) (w.heap.size + 1) (feC b) 23 := by have h := ((Blk.new (w.alloc (.cells (feC a) 23)) (feC b) 23).alloc (.cells z32 23)); exact (by simpa using h : Blk (((w.alloc (.cells (feC a) 23)).alloc (.cells (feC b) 23)).alloc (.cells z32 23)) (w.heap.size + 1) (feC b) 23).setRowOther (by omega) _
  have Fz : Blk (((w.alloc (.cells (feC a) 23)).alloc (.cells (feC b) 23)).alloc (.cells z32 23)) (w.heap.size + 1 + 1) z32 23 := by have h := Blk.new ((w.alloc (.cells (feC a) 23)).alloc (.cells (feC b) 23)) z32 23; simpa using h
  have F2 : Blk ((((w.alloc (.cells (feC a) 23)).alloc (.cells (feC b) 23)).alloc (.cells z32 23)).setRow (w.heap.size + 1 + 1) (feC 1)) (w.heap.size + 1 + 1) (feC 1) 23 := Fz.setRow _
  have CC : Chg w ((((w.alloc (.cells (feC a) 23)).alloc (.cells (feC b) 23)).alloc (.cells z32 23)).setRow (w.heap.size + 1 + 1) (feC 1)) [] := ((((Chg.refl w []).alloc (.cells (feC a) 23)).alloc (.cells (feC b) 23)).alloc (.cells z32 23)).setRowNew (by omega) _
  replace hE := hE.chg CC (Off.nil _)
  replace hF := hF.chg CC (Off.nil _)
  go_enter Try.func4, Try.ntmps4
  go_upto_region 2 with (first | (refine wpList_store_row rfl 23 _ _ rfl (w.heap.size + 1 + 1) _ rfl rfl 23 _ Fz feInfo rfl (feC_one _) ?_) | (refine gl_build (by rfl) 23 #[(0, .const (.int .u8 1))] rfl (feC 1) (by kernel_rfl) ?_))
  try (change Code.wp _ _ _ _ ((((w.alloc (.cells (feC a) 23)).alloc (.cells (feC b) 23)).alloc (.cells z32 23)).setRow (w.heap.size + 1 + 1) (feC 1)))
  generalize ((((w.alloc (.cells (feC a) 23)).alloc (.cells (feC b) 23)).alloc (.cells z32 23)).setRow (w.heap.size + 1 + 1) (feC 1)) = v0 at *
  clear Fz
  generalize w.heap.size + 1 + 1 = g1 at *
  generalize w.heap.size + 1 = gb at *
  obtain ⟨ga, hga⟩ : ∃ g, w.heap.size = g := ⟨_, rfl⟩
  rw [hga] at F0
  try rw [hga]
  clear hga
  go_wp2_with (refine wpList_load_row rfl 23 _ rfl ga rfl 23 _ (0, 0) _ F0 Try.underlying23 rfl feInfo ?_)
  refine (hInv _).mono ?_
  rintro e v1 ⟨rfl, k⟩
  replace F0 := F0.chg k (by simp)
  replace F1 := F1.chg k (by simp)
  replace F2 := F2.chg k (by simp)
  replace hE := hE.chg k (Off.nil _)
  replace hF := hF.chg k (Off.nil _)
  replace CC := CC.trans1 k
  clear k
  have FX := Blk.new v1 z32 23
  have KS : Chg v1 ((v1.alloc (.cells z32 23)).setRow v1.heap.size (feC X)) [] := ((Chg.refl v1 []).alloc (.cells z32 23)).setRowNew (Nat.le_refl _) _
  replace F0 := F0.chg KS (by simp)
  replace F1 := F1.chg KS (by simp)
  replace F2 := F2.chg KS (by simp)
  replace hE := hE.chg KS (Off.nil _)
  replace hF := hF.chg KS (Off.nil _)
  replace CC := CC.trans1 KS
  clear KS
  go_upto_region 3 with (refine wpList_store_row rfl 23 _ _ rfl v1.heap.size (feC X) rfl rfl 23 _ FX feInfo rfl (feC_one _) ?_)
  replace FX := FX.setRow (feC X)
  try (change Code.wp _ _ _ _ ((v1.alloc (.cells z32 23)).setRow v1.heap.size (feC X)))
  generalize (v1.alloc (.cells z32 23)).setRow v1.heap.size (feC X) = v2 at *
  generalize v1.heap.size = gx at *
  go_cut [12] (fun t12 wc => ∃ g, t12 = .pointer (some ⟨g, 0, none⟩) ∧ Blk wc g (feC P1) 23 ∧ Chg v2 wc [])
  case first =>
    refine wp_region_held_drew (S := fun w' => Chg v2 w' []) (by kernel_rfl) ((Chg.refl v2 _).drew) (fun hHeld => ?_)
    refine take_load 0 (some 22) (feC a) rfl (by kernel_rfl) (by kernel_rfl) (by kernel_rfl) (fun _ _ _ h => h) rfl rfl 23 _ rfl ga rfl 23 _ (fun w hSw => F0.chg hSw (by simp)) Try.underlying23 rfl (by first | exact feInfo | kernel_rfl) hHeld ?_
    try simp only [Act.put, List.setIfInBounds_toArray, List.set_cons_zero, List.set_cons_succ]
    refine wpAnyH_ready (rs := [1, 3]) (by kernel_rfl) (by simp) ?_
    refine AllReadyH.cons (o := _) rfl (fun K hK => ?_) ?_
    ·
      go_simp
      refine (order_s 1 (by decide) _).mono ?_
      rintro e x1 ⟨vo, rfl, O1, k1⟩
      have hsz1 : Hid (v2.heap.size ≤ x1.heap.size) := (hHeld.trans1 k1).size
      go_wp2_with fail
      refine hK.out _ _ (hHeld.trans1 k1) (fun hHeld => ?_)
      clear hK K
      try simp only [Act.put, List.setIfInBounds_toArray, List.set_cons_zero, List.set_cons_succ]
      clear k1
      refine wpAnyH_ready (rs := [2, 3]) (by kernel_rfl) (by simp) ?_
      refine AllReadyH.cons (o := _) rfl (fun K hK => ?_) ?_
      ·
        go_simp
        refine (Power_is a P1 ra vo 32 (orf 1) (by decide) KP1.out _ O1.sl).mono ?_
        rintro e x2 ⟨rfl, k2⟩
        have hsz2 : Hid (v2.heap.size ≤ x2.heap.size) := (hHeld.trans1 k2).size
        go_wp2_with fail
        refine hK.out _ _ (hHeld.trans1 k2) (fun hHeld => ?_)
        clear hK K
        try simp only [Act.put, List.setIfInBounds_toArray, List.set_cons_zero, List.set_cons_succ]
        replace O1 := O1.chg k2 (fun _ _ h => by simp at h)
        clear k2
        refine wpAnyH_ready (rs := [3]) (by kernel_rfl) (by simp) ?_
        refine AllReadyH.cons (o := _) rfl (fun K hK => ?_) ?_
        ·
          rw [if_pos (by rfl)]
          go_simp
          refine hK.out _ _ (hHeld.alloc _) (fun hHeld => ?_)
          clear hK K
          try simp only [Act.put, List.setIfInBounds_toArray, List.set_cons_zero, List.set_cons_succ]
          have NB := Blk.new x2 z32 23
          have nbl : v2.heap.size ≤ x2.heap.size := (hsz2.out)
          generalize hnb : x2.heap.size = nb at *
          clear hnb
          refine wpAnyH_ready (rs := [4]) (by kernel_rfl) (by simp) ?_
          refine AllReadyH.cons (o := _) rfl (fun K hK => ?_) ?_
          ·
            rw [if_pos (by rfl)]
            refine wp_store_row 23 _ _ rfl nb _ rfl rfl 23 _ NB feInfo rfl (feC_one _) ?_
            refine hK.out _ _ (hHeld.setRowNew nbl _) (fun hHeld => ?_)
            clear hK K
            try simp only [Act.put, List.setIfInBounds_toArray, List.set_cons_zero, List.set_cons_succ]
            refine wpAnyH_done (by kernel_rfl) ?_ _
            replace NB := NB.setRow (feC P1)
            go_wp2_with fail
            go_meet
            case rel => exact ⟨nb, rfl, NB, hHeld⟩
          exact AllReadyH.nil
        exact AllReadyH.nil
      refine AllReadyH.cons (o := _) rfl (fun K hK => ?_) ?_
      ·
        rw [if_pos (by rfl)]
        go_simp
        refine hK.out _ _ (hHeld.alloc _) (fun hHeld => ?_)
        clear hK K
        try simp only [Act.put, List.setIfInBounds_toArray, List.set_cons_zero, List.set_cons_succ]
        have NB := Blk.new x1 z32 23
        have nbl : v2.heap.size ≤ x1.heap.size := (hsz1.out)
        generalize hnb : x1.heap.size = nb at *
        clear hnb
        replace O1 := O1.chg ((Chg.refl _ []).alloc (.cells z32 23)) (fun _ _ h => by simp at h)
        refine wpAnyH_ready (rs := [2]) (by kernel_rfl) (by simp) ?_
        refine AllReadyH.cons (o := _) rfl (fun K hK => ?_) ?_
        ·
          go_simp
          refine (Power_is a P1 ra vo 32 (orf 1) (by decide) KP1.out _ O1.sl).mono ?_
          rintro e x2 ⟨rfl, k2⟩
          have hsz2 : Hid (v2.heap.size ≤ x2.heap.size) := (hHeld.trans1 k2).size
          go_wp2_with fail
          refine hK.out _ _ (hHeld.trans1 k2) (fun hHeld => ?_)
          clear hK K
          try simp only [Act.put, List.setIfInBounds_toArray, List.set_cons_zero, List.set_cons_succ]
          replace NB := NB.chg k2 (by simp)
          replace O1 := O1.chg k2 (fun _ _ h => by simp at h)
          clear k2
          refine wpAnyH_ready (rs := [4]) (by kernel_rfl) (by simp) ?_
          refine AllReadyH.cons (o := _) rfl (fun K hK => ?_) ?_
          ·
            rw [if_pos (by rfl)]
            refine wp_store_row 23 _ _ rfl nb _ rfl rfl 23 _ NB feInfo rfl (feC_one _) ?_
            refine hK.out _ _ (hHeld.setRowNew nbl _) (fun hHeld => ?_)
            clear hK K
            try simp only [Act.put, List.setIfInBounds_toArray, List.set_cons_zero, List.set_cons_succ]
            refine wpAnyH_done (by kernel_rfl) ?_ _
            replace NB := NB.setRow (feC P1)
            go_wp2_with fail
            go_meet
            case rel => exact ⟨nb, rfl, NB, hHeld⟩
          exact AllReadyH.nil
        exact AllReadyH.nil
      exact AllReadyH.nil
    refine AllReadyH.cons (o := _) rfl (fun K hK => ?_) ?_
    ·
      rw [if_pos (by rfl)]
      go_simp
      refine hK.out _ _ (hHeld.alloc _) (fun hHeld => ?_)
      clear hK K
      try simp only [Act.put, List.setIfInBounds_toArray, List.set_cons_zero, List.set_cons_succ]
      have NB : Blk (v2.drew.alloc (.cells z32 23)) v2.heap.size z32 23 := Blk.new v2.drew z32 23
      obtain ⟨nb, hnb⟩ : ∃ nb, v2.heap.size = nb := ⟨_, rfl⟩
      have nbl : v2.heap.size ≤ nb := Nat.le_of_eq hnb
      rw [hnb] at NB
      rw [hnb]
      clear hnb
      refine wpAnyH_ready (rs := [1]) (by kernel_rfl) (by simp) ?_
      refine AllReadyH.cons (o := _) rfl (fun K hK => ?_) ?_
      ·
        go_simp
        refine (order_s 1 (by decide) _).mono ?_
        rintro e x1 ⟨vo, rfl, O1, k1⟩
        have hsz1 : Hid (v2.heap.size ≤ x1.heap.size) := (hHeld.trans1 k1).size
        go_wp2_with fail
        refine hK.out _ _ (hHeld.trans1 k1) (fun hHeld => ?_)
        clear hK K
        try simp only [Act.put, List.setIfInBounds_toArray, List.set_cons_zero, List.set_cons_succ]
        replace NB := NB.chg k1 (by simp)
        clear k1
        refine wpAnyH_ready (rs := [2]) (by kernel_rfl) (by simp) ?_
        refine AllReadyH.cons (o := _) rfl (fun K hK => ?_) ?_
        ·
          go_simp
          refine (Power_is a P1 ra vo 32 (orf 1) (by decide) KP1.out _ O1.sl).mono ?_
          rintro e x2 ⟨rfl, k2⟩
          have hsz2 : Hid (v2.heap.size ≤ x2.heap.size) := (hHeld.trans1 k2).size
          go_wp2_with fail
          refine hK.out _ _ (hHeld.trans1 k2) (fun hHeld => ?_)
          clear hK K
          try simp only [Act.put, List.setIfInBounds_toArray, List.set_cons_zero, List.set_cons_succ]
          replace NB := NB.chg k2 (by simp)
          replace O1 := O1.chg k2 (fun _ _ h => by simp at h)
          clear k2
          refine wpAnyH_ready (rs := [4]) (by kernel_rfl) (by simp) ?_
          refine AllReadyH.cons (o := _) rfl (fun K hK => ?_) ?_
          ·
            rw [if_pos (by rfl)]
            refine wp_store_row 23 _ _ rfl nb _ rfl rfl 23 _ NB feInfo rfl (feC_one _) ?_
            refine hK.out _ _ (hHeld.setRowNew nbl _) (fun hHeld => ?_)
            clear hK K
            try simp only [Act.put, List.setIfInBounds_toArray, List.set_cons_zero, List.set_cons_succ]
            refine wpAnyH_done (by kernel_rfl) ?_ _
            replace NB := NB.setRow (feC P1)
            go_wp2_with fail
            go_meet
            case rel => exact ⟨nb, rfl, NB, hHeld⟩
          exact AllReadyH.nil
        exact AllReadyH.nil
      exact AllReadyH.nil
    exact AllReadyH.nil
  case rest =>
    obtain ⟨g12, rfl, F12, k⟩ := hcut
    replace F0 := F0.chg k (by simp)
    replace F1 := F1.chg k (by simp)
    replace F2 := F2.chg k (by simp)
    replace FX := FX.chg k (by simp)
    replace hE := hE.chg k (Off.nil _)
    replace hF := hF.chg k (Off.nil _)
    replace CC := CC.trans1 k
    clear k
    go_upto_region 4 with fail
    generalize wc = y3 at *
    go_cut [47] (fun t47 wd => t47 = .bool false ∧ Chg y3 wd [])
    case first =>
      rcases HCA.out with ⟨rfl, e1, e2⟩ | ⟨rfl, e1⟩
      · skip
        refine wp_region_held_drew (S := fun w' => Chg y3 w' []) (by kernel_rfl) ((Chg.refl y3 _).drew) (fun hHeld => ?_)
        refine take_val (v := ?_) 0 (some 25) rfl (by kernel_rfl) (by kernel_rfl) (by kernel_rfl) (fun _ _ _ h => h) rfl rfl (fun w hSw => ?_) hHeld ?_
        rotate_left
        · (go_simp; try with_reducible rfl)
        try simp only [Act.put, List.setIfInBounds_toArray, List.set_cons_zero, List.set_cons_succ]
        refine take_val (v := ?_) 1 (some 26) rfl (by kernel_rfl) (by kernel_rfl) (by kernel_rfl) (fun _ _ _ h => h) rfl rfl (fun w hSw => ?_) hHeld ?_
        rotate_left
        · (go_simp; try with_reducible rfl)
        try simp only [Act.put, List.setIfInBounds_toArray, List.set_cons_zero, List.set_cons_succ]
        refine take_val (v := ?_) 2 (some 27) rfl (by kernel_rfl) (by kernel_rfl) (by kernel_rfl) (fun _ _ _ h => h) rfl rfl (fun w hSw => ?_) hHeld ?_
        rotate_left
        · (go_simp; try with_reducible rfl)
        try simp only [Act.put, List.setIfInBounds_toArray, List.set_cons_zero, List.set_cons_succ]
        refine take_load 3 (some 28) (feC P1) rfl (by kernel_rfl) (by kernel_rfl) (by kernel_rfl) (fun _ _ _ h => h) rfl rfl 23 _ rfl g12 rfl 23 _ (fun w hSw => F12.chg hSw (by simp)) Try.underlying23 rfl (by first | exact feInfo | kernel_rfl) hHeld ?_
        try simp only [Act.put, List.setIfInBounds_toArray, List.set_cons_zero, List.set_cons_succ]
        refine take_load 4 (some 29) (feC 1) rfl (by kernel_rfl) (by kernel_rfl) (by kernel_rfl) (fun _ _ _ h => h) rfl rfl 23 _ rfl g1 rfl 23 _ (fun w hSw => F2.chg hSw (by simp)) Try.underlying23 rfl (by first | exact feInfo | kernel_rfl) hHeld ?_
        try simp only [Act.put, List.setIfInBounds_toArray, List.set_cons_zero, List.set_cons_succ]
        refine take_val (v := (.bool false)) 5 (some 30) rfl (by kernel_rfl) (by kernel_rfl) (by kernel_rfl) (fun _ _ _ h => h) rfl rfl (fun w hSw => ?_) hHeld ?_
        · (go_simp; try with_reducible rfl)
        try simp only [Act.put, List.setIfInBounds_toArray, List.set_cons_zero, List.set_cons_succ]
        refine take_val (v := ?_) 6 (some 31) rfl (by kernel_rfl) (by kernel_rfl) (by kernel_rfl) (fun _ _ _ h => h) rfl rfl (fun w hSw => ?_) hHeld ?_
        rotate_left
        · (go_simp; try with_reducible rfl)
        try simp only [Act.put, List.setIfInBounds_toArray, List.set_cons_zero, List.set_cons_succ]
        refine take_load 7 (some 32) (feC a) rfl (by kernel_rfl) (by kernel_rfl) (by kernel_rfl) (fun _ _ _ h => h) rfl rfl 23 _ rfl ga rfl 23 _ (fun w hSw => F0.chg hSw (by simp)) Try.underlying23 rfl (by first | exact feInfo | kernel_rfl) hHeld ?_
        try simp only [Act.put, List.setIfInBounds_toArray, List.set_cons_zero, List.set_cons_succ]
        refine take_load 10 (some 35) (feC X) rfl (by kernel_rfl) (by kernel_rfl) (by kernel_rfl) (fun _ _ _ h => h) rfl rfl 23 _ rfl gx rfl 23 _ (fun w hSw => FX.chg hSw (by simp)) Try.underlying23 rfl (by first | exact feInfo | kernel_rfl) hHeld ?_
        try simp only [Act.put, List.setIfInBounds_toArray, List.set_cons_zero, List.set_cons_succ]
        refine wpAnyH_ready (rs := [8]) (by kernel_rfl) (by simp) ?_
        refine AllReadyH.cons (o := _) rfl (fun K hK => ?_) ?_
        ·
          go_simp
          refine (order_s 2 (by decide) _).mono ?_
          rintro e x8 ⟨vo, rfl, O1, k8⟩
          go_wp2_with fail
          refine hK.out _ _ (hHeld.trans1 k8) (fun hHeld => ?_)
          clear hK K
          try simp only [Act.put, List.setIfInBounds_toArray, List.set_cons_zero, List.set_cons_succ]
          clear k8
          refine wpAnyH_ready (rs := [9]) (by kernel_rfl) (by simp) ?_
          refine AllReadyH.cons (o := _) rfl (fun K hK => ?_) ?_
          ·
            go_simp
            refine (Power_is a P2 ra vo 32 (orf 2) (by decide) KP2.out _ O1.sl).mono ?_
            rintro e x9 ⟨rfl, k9⟩
            go_wp2_with fail
            refine hK.out _ _ (hHeld.trans1 k9) (fun hHeld => ?_)
            clear hK K
            try simp only [Act.put, List.setIfInBounds_toArray, List.set_cons_zero, List.set_cons_succ]
            clear k9
            refine take_val (v := (.bool false)) 11 (some 36) rfl (by kernel_rfl) (by kernel_rfl) (by kernel_rfl) (fun _ _ _ h => h) rfl rfl (fun w hSw => ?_) hHeld ?_
            · (go_simp; try with_reducible rfl)
            try simp only [Act.put, List.setIfInBounds_toArray, List.set_cons_zero, List.set_cons_succ]
            refine take_val (v := ?_) 12 (some 37) rfl (by kernel_rfl) (by kernel_rfl) (by kernel_rfl) (fun _ _ _ h => h) rfl rfl (fun w hSw => ?_) hHeld ?_
            rotate_left
            · (go_simp; try with_reducible rfl)
            try simp only [Act.put, List.setIfInBounds_toArray, List.set_cons_zero, List.set_cons_succ]
            refine take_val (v := ?_) 13 (some 38) rfl (by kernel_rfl) (by kernel_rfl) (by kernel_rfl) (fun _ _ _ h => h) rfl rfl (fun w hSw => ?_) hHeld ?_
            rotate_left
            · (go_simp; try with_reducible rfl)
            try simp only [Act.put, List.setIfInBounds_toArray, List.set_cons_zero, List.set_cons_succ]
            refine take_val (v := ?_) 14 (some 39) rfl (by kernel_rfl) (by kernel_rfl) (by kernel_rfl) (fun _ _ _ h => h) rfl rfl (fun w hSw => ?_) hHeld ?_
            rotate_left
            · (go_simp; try with_reducible rfl)
            try simp only [Act.put, List.setIfInBounds_toArray, List.set_cons_zero, List.set_cons_succ]
            refine take_val (v := ?_) 15 (some 40) rfl (by kernel_rfl) (by kernel_rfl) (by kernel_rfl) (fun _ _ _ h => h) rfl rfl (fun w hSw => ?_) hHeld ?_
            rotate_left
            · (go_simp; try with_reducible rfl)
            try simp only [Act.put, List.setIfInBounds_toArray, List.set_cons_zero, List.set_cons_succ]
            refine take_val (v := ?_) 16 (some 41) rfl (by kernel_rfl) (by kernel_rfl) (by kernel_rfl) (fun _ _ _ h => h) rfl rfl (fun w hSw => ?_) hHeld ?_
            rotate_left
            · (go_simp; try with_reducible rfl)
            try simp only [Act.put, List.setIfInBounds_toArray, List.set_cons_zero, List.set_cons_succ]
            refine take_val (v := ?_) 17 (some 42) rfl (by kernel_rfl) (by kernel_rfl) (by kernel_rfl) (fun _ _ _ h => h) rfl rfl (fun w hSw => ?_) hHeld ?_
            rotate_left
            · (go_simp; try with_reducible rfl)
            try simp only [Act.put, List.setIfInBounds_toArray, List.set_cons_zero, List.set_cons_succ]
            refine take_no 18 (some 43) rfl (by kernel_rfl) (by kernel_rfl) (by kernel_rfl) (fun _ _ _ h => h) rfl rfl hHeld ?_
            try simp only [Act.put, List.setIfInBounds_toArray, List.set_cons_zero, List.set_cons_succ]
            refine take_no 19 (some 44) rfl (by kernel_rfl) (by kernel_rfl) (by kernel_rfl) (fun _ _ _ h => h) rfl rfl hHeld ?_
            try simp only [Act.put, List.setIfInBounds_toArray, List.set_cons_zero, List.set_cons_succ]
            refine take_no 20 (some 45) rfl (by kernel_rfl) (by kernel_rfl) (by kernel_rfl) (fun _ _ _ h => h) rfl rfl hHeld ?_
            try simp only [Act.put, List.setIfInBounds_toArray, List.set_cons_zero, List.set_cons_succ]
            refine take_val (v := ?_) 21 (some 46) rfl (by kernel_rfl) (by kernel_rfl) (by kernel_rfl) (fun _ _ _ h => h) rfl rfl (fun w hSw => ?_) hHeld ?_
            rotate_left
            · (go_simp; try with_reducible rfl)
            try simp only [Act.put, List.setIfInBounds_toArray, List.set_cons_zero, List.set_cons_succ]
            refine take_val (v := ?_) 22 (some 47) rfl (by kernel_rfl) (by kernel_rfl) (by kernel_rfl) (fun _ _ _ h => h) rfl rfl (fun w hSw => ?_) hHeld ?_
            rotate_left
            · (go_simp; try with_reducible rfl)
            try simp only [Act.put, List.setIfInBounds_toArray, List.set_cons_zero, List.set_cons_succ]
            refine wpAnyH_done (by kernel_rfl) ?_ _
            go_wp2_with fail
            go_meet
            case rel => exact ⟨rfl, hHeld⟩
          exact AllReadyH.nil
        exact AllReadyH.nil
      · skip
        refine wp_region_held_drew (S := fun w' => Chg y3 w' []) (by kernel_rfl) ((Chg.refl y3 _).drew) (fun hHeld => ?_)
        refine take_val (v := ?_) 0 (some 25) rfl (by kernel_rfl) (by kernel_rfl) (by kernel_rfl) (fun _ _ _ h => h) rfl rfl (fun w hSw => ?_) hHeld ?_
        rotate_left
        · (go_simp; try with_reducible rfl)
        try simp only [Act.put, List.setIfInBounds_toArray, List.set_cons_zero, List.set_cons_succ]
        refine take_val (v := ?_) 1 (some 26) rfl (by kernel_rfl) (by kernel_rfl) (by kernel_rfl) (fun _ _ _ h => h) rfl rfl (fun w hSw => ?_) hHeld ?_
        rotate_left
        · (go_simp; try with_reducible rfl)
        try simp only [Act.put, List.setIfInBounds_toArray, List.set_cons_zero, List.set_cons_succ]
        refine take_val (v := ?_) 2 (some 27) rfl (by kernel_rfl) (by kernel_rfl) (by kernel_rfl) (fun _ _ _ h => h) rfl rfl (fun w hSw => ?_) hHeld ?_
        rotate_left
        · (go_simp; try with_reducible rfl)
        try simp only [Act.put, List.setIfInBounds_toArray, List.set_cons_zero, List.set_cons_succ]
        refine take_no 3 (some 28) rfl (by kernel_rfl) (by kernel_rfl) (by kernel_rfl) (fun _ _ _ h => h) rfl rfl hHeld ?_
        try simp only [Act.put, List.setIfInBounds_toArray, List.set_cons_zero, List.set_cons_succ]
        refine take_no 4 (some 29) rfl (by kernel_rfl) (by kernel_rfl) (by kernel_rfl) (fun _ _ _ h => h) rfl rfl hHeld ?_
        try simp only [Act.put, List.setIfInBounds_toArray, List.set_cons_zero, List.set_cons_succ]
        refine take_no 5 (some 30) rfl (by kernel_rfl) (by kernel_rfl) (by kernel_rfl) (fun _ _ _ h => h) rfl rfl hHeld ?_
        try simp only [Act.put, List.setIfInBounds_toArray, List.set_cons_zero, List.set_cons_succ]
        refine take_no 6 (some 31) rfl (by kernel_rfl) (by kernel_rfl) (by kernel_rfl) (fun _ _ _ h => h) rfl rfl hHeld ?_
        try simp only [Act.put, List.setIfInBounds_toArray, List.set_cons_zero, List.set_cons_succ]
        refine take_no 7 (some 32) rfl (by kernel_rfl) (by kernel_rfl) (by kernel_rfl) (fun _ _ _ h => h) rfl rfl hHeld ?_
        try simp only [Act.put, List.setIfInBounds_toArray, List.set_cons_zero, List.set_cons_succ]
        refine take_no 8 (some 33) rfl (by kernel_rfl) (by kernel_rfl) (by kernel_rfl) (fun _ _ _ h => h) rfl rfl hHeld ?_
        try simp only [Act.put, List.setIfInBounds_toArray, List.set_cons_zero, List.set_cons_succ]
        refine take_no 9 (some 34) rfl (by kernel_rfl) (by kernel_rfl) (by kernel_rfl) (fun _ _ _ h => h) rfl rfl hHeld ?_
        try simp only [Act.put, List.setIfInBounds_toArray, List.set_cons_zero, List.set_cons_succ]
        refine take_no 10 (some 35) rfl (by kernel_rfl) (by kernel_rfl) (by kernel_rfl) (fun _ _ _ h => h) rfl rfl hHeld ?_
        try simp only [Act.put, List.setIfInBounds_toArray, List.set_cons_zero, List.set_cons_succ]
        refine take_no 11 (some 36) rfl (by kernel_rfl) (by kernel_rfl) (by kernel_rfl) (fun _ _ _ h => h) rfl rfl hHeld ?_
        try simp only [Act.put, List.setIfInBounds_toArray, List.set_cons_zero, List.set_cons_succ]
        refine take_no 12 (some 37) rfl (by kernel_rfl) (by kernel_rfl) (by kernel_rfl) (fun _ _ _ h => h) rfl rfl hHeld ?_
        try simp only [Act.put, List.setIfInBounds_toArray, List.set_cons_zero, List.set_cons_succ]
        refine take_val (v := ?_) 13 (some 38) rfl (by kernel_rfl) (by kernel_rfl) (by kernel_rfl) (fun _ _ _ h => h) rfl rfl (fun w hSw => ?_) hHeld ?_
        rotate_left
        · (go_simp; try with_reducible rfl)
        try simp only [Act.put, List.setIfInBounds_toArray, List.set_cons_zero, List.set_cons_succ]
        refine take_val (v := ?_) 14 (some 39) rfl (by kernel_rfl) (by kernel_rfl) (by kernel_rfl) (fun _ _ _ h => h) rfl rfl (fun w hSw => ?_) hHeld ?_
        rotate_left
        · (go_simp; try with_reducible rfl)
        try simp only [Act.put, List.setIfInBounds_toArray, List.set_cons_zero, List.set_cons_succ]
        refine take_val (v := ?_) 15 (some 40) rfl (by kernel_rfl) (by kernel_rfl) (by kernel_rfl) (fun _ _ _ h => h) rfl rfl (fun w hSw => ?_) hHeld ?_
        rotate_left
        · (go_simp; try with_reducible rfl)
        try simp only [Act.put, List.setIfInBounds_toArray, List.set_cons_zero, List.set_cons_succ]
        refine take_val (v := ?_) 16 (some 41) rfl (by kernel_rfl) (by kernel_rfl) (by kernel_rfl) (fun _ _ _ h => h) rfl rfl (fun w hSw => ?_) hHeld ?_
        rotate_left
        · (go_simp; try with_reducible rfl)
        try simp only [Act.put, List.setIfInBounds_toArray, List.set_cons_zero, List.set_cons_succ]
        refine take_val (v := ?_) 17 (some 42) rfl (by kernel_rfl) (by kernel_rfl) (by kernel_rfl) (fun _ _ _ h => h) rfl rfl (fun w hSw => ?_) hHeld ?_
        rotate_left
        · (go_simp; try with_reducible rfl)
        try simp only [Act.put, List.setIfInBounds_toArray, List.set_cons_zero, List.set_cons_succ]
        refine take_load 18 (some 43) (feC P1) rfl (by kernel_rfl) (by kernel_rfl) (by kernel_rfl) (fun _ _ _ h => h) rfl rfl 23 _ rfl g12 rfl 23 _ (fun w hSw => F12.chg hSw (by simp)) Try.underlying23 rfl (by first | exact feInfo | kernel_rfl) hHeld ?_
        try simp only [Act.put, List.setIfInBounds_toArray, List.set_cons_zero, List.set_cons_succ]
        refine take_val (v := .agg (feC 0)) 19 (some 44) rfl (by kernel_rfl) (by kernel_rfl) (by kernel_rfl) (fun _ _ _ h => h) rfl rfl (fun w hSw => exec_build w 23 #[] rfl (feC 0) (by kernel_rfl)) hHeld ?_
        try simp only [Act.put, List.setIfInBounds_toArray, List.set_cons_zero, List.set_cons_succ]
        refine take_val (v := (.bool false)) 20 (some 45) rfl (by kernel_rfl) (by kernel_rfl) (by kernel_rfl) (fun _ _ _ h => h) rfl rfl (fun w hSw => ?_) hHeld ?_
        · (go_simp; try with_reducible rfl)
        try simp only [Act.put, List.setIfInBounds_toArray, List.set_cons_zero, List.set_cons_succ]
        refine take_val (v := ?_) 21 (some 46) rfl (by kernel_rfl) (by kernel_rfl) (by kernel_rfl) (fun _ _ _ h => h) rfl rfl (fun w hSw => ?_) hHeld ?_
        rotate_left
        · (go_simp; try with_reducible rfl)
        try simp only [Act.put, List.setIfInBounds_toArray, List.set_cons_zero, List.set_cons_succ]
        refine take_val (v := ?_) 22 (some 47) rfl (by kernel_rfl) (by kernel_rfl) (by kernel_rfl) (fun _ _ _ h => h) rfl rfl (fun w hSw => ?_) hHeld ?_
        rotate_left
        · (go_simp; try with_reducible rfl)
        try simp only [Act.put, List.setIfInBounds_toArray, List.set_cons_zero, List.set_cons_succ]
        refine wpAnyH_done (by kernel_rfl) ?_ _
        go_wp2_with fail
        go_meet
        case rel => exact ⟨rfl, hHeld⟩
    case rest =>
      obtain ⟨rfl, k⟩ := hcut
      replace F0 := F0.chg k (by simp)
      replace F1 := F1.chg k (by simp)
      replace F2 := F2.chg k (by simp)
      replace FX := FX.chg k (by simp)
      replace F12 := F12.chg k (by simp)
      replace hE := hE.chg k (Off.nil _)
      replace hF := hF.chg k (Off.nil _)
      replace CC := CC.trans1 k
      clear k
      clear FX F12 KP1 KP2 HCA hInv
      go_wp2_with fail
      generalize wc = y4 at *
      refine (order_s 1 (by decide) _).mono ?_
      rintro e y5 ⟨vo, rfl, O1, k⟩
      obtain ⟨gh, cap, cur, rfl, hgl, hc1, hc2, BH, hcur⟩ := O1.block (by decide)
      have H0 : Hc y5 gh (hfm 0) := ⟨cur, BH, fun i hi => by rw [hfm_z]; exact hcur i hi⟩
      clear O1 BH hcur
      go_wp2_with fail
      go_loopw [14] (fun t wr => ∃ i : Nat, i ≤ 32 ∧ t = .int .i64 (i : Int) ∧ Hc wr gh (hfm i) ∧ Chg y4 wr []) (fun t _ => (32 - intOf t).toNat)
      case atStart => exact ⟨0, by decide, rfl, H0, k⟩
      case round =>
        clear H0 k
        obtain ⟨i, hi, rfl, HB, kk⟩ := hrel
        by_cases h : i < 32
        · have hI : (i : Int) < 32 := by omega
          obtain ⟨x, hx⟩ : ∃ x, orf 1 i = x := ⟨_, rfl⟩
          have ci := HB.cell h
          rw [hfm_at, hx] at ci
          have fz := HB.frozen i
          have e1 : (x : Int) / 2 = ((x / 2 : Nat) : Int) := by omega
          obtain ⟨xh, hxh⟩ : ∃ y, x / 2 = y := ⟨_, rfl⟩
          rw [hxh] at e1
          by_cases h31 : i < 31
          · have hI31 : (i : Int) < 31 := by omega
            obtain ⟨y, hy⟩ : ∃ y, orf 1 (i + 1) = y := ⟨_, rfl⟩
            have H1 : Hc (wr.setCell ⟨gh, i, none⟩ (.int .u8 (xh : Int))) gh (fun j => if j = i then xh else hfm i j) := HB.set i xh h _ (fun j _ => rfl)
            have kk1 : Chg y4 (wr.setCell ⟨gh, i, none⟩ (.int .u8 (xh : Int))) [] := kk.setNew hgl _ _
            have e2 := hf_and' i y h31 hy
            have e4 := hf_or' i x y h31 hx hy
            rw [hxh] at e4
            obtain ⟨t, ht⟩ : ∃ t, y % 2 = t := ⟨_, rfl⟩
            rw [ht] at e2 e4
            obtain ⟨u, hu⟩ : ∃ u, 128 * t = u := ⟨_, rfl⟩
            rw [hu] at e4
            have e3 : IntKind.u8.wrap ((t : Int) * 128) = (u : Int) := by rw [IntKind.wrap_u8']; omega
            obtain ⟨z, hz⟩ : ∃ z, hfb i = z := ⟨_, rfl⟩
            rw [hz] at e4
            have HZ : Hid (hfb i = z) := hz
            have HT : Hid (t < 2) := by show t < 2; omega
            have HY : Hid (orf 1 (i + 1) = y) := hy
            clear hx hxh hy ht hu hz
            go_upto_region 12 with fail
            generalize wr.setCell ⟨gh, i, none⟩ (.int .u8 (xh : Int)) = w1 at *
            have d1 := H1.cell h
            simp only [if_true] at d1
            have d2 := H1.cell (i := i + 1) (by omega)
            have hne : ¬ i + 1 = i := by omega
            simp only [hne, if_false] at d2
            rw [hfm_next, HY.out] at d2
            have fz1 := H1.frozen i
            have hI1 : (i : Int) + 1 < 32 := by omega
            have hI0 : (0 : Int) ≤ (i : Int) := by omega
            have hI2 : (0 : Int) ≤ (i : Int) + 1 := by omega
            clear hne ci fz HB kk
            go_region
            go_wp2_with fail
            exact ⟨⟨i + 1, by omega, by go_num, (H1.set i z h (hfm (i + 1)) (fun j hj => by rw [hfm_step i z HZ.out j hj]; by_cases hj2 : j = i <;> simp [hj2])).chg ((Chg.refl _ []).drew) (by simp), (kk1.setNew hgl _ _).drew⟩, by simp [intOf]; omega⟩
          · have hI31 : ¬ (i : Int) < 31 := by omega
            obtain rfl : i = 31 := by omega
            have HZ : hfb 31 = xh := by rw [hfb_hi x hx, hxh]
            clear hx hxh
            go_wp2_with fail
            exact ⟨⟨32, by decide, by go_num, HB.set 31 xh h _ (hfm_step 31 xh HZ), kk.setNew hgl _ _⟩, by simp [intOf]⟩
        · have hI : ¬ (i : Int) < 32 := by omega
          obtain rfl : i = 32 := by omega
          have HB : Hc wr gh hfb := by obtain ⟨cur, q1, q2⟩ := HB; exact ⟨cur, q1, fun j hj => by rw [← hfm_all j hj]; exact q2 j hj⟩
          replace F0 := F0.chg kk (by simp)
          replace F1 := F1.chg kk (by simp)
          replace F2 := F2.chg kk (by simp)
          replace hE := hE.chg kk (Off.nil _)
          replace hF := hF.chg kk (Off.nil _)
          replace CC := CC.trans1 kk
          clear kk
          go_upto_region 13 with fail
          go_cut [15] (fun t15 wc => ∃ g, t15 = .pointer (some ⟨g, 0, none⟩) ∧ wr.heap.size ≤ g ∧ Blk wc g (feC 0) 23 ∧ Chg wr wc [])
          case first =>
            have FW := Blk.new wr z32 23
            go_wp2_with (first | (refine wpList_store_row rfl 23 _ _ rfl wr.heap.size _ rfl rfl 23 _ FW feInfo rfl (feC_one _) ?_) | (refine gl_build (by rfl) 23 #[] rfl (feC 0) (by kernel_rfl) ?_))
            go_meet
            case rel => exact ⟨wr.heap.size, rfl, Nat.le_refl _, FW.setRow _, ((Chg.refl wr []).alloc _).setRowNew (Nat.le_refl _) _⟩
          case rest =>
            obtain ⟨g15, rfl, hg15, FW, k⟩ := hcut
            have d0 : ¬ ga = g15 := Nat.ne_of_lt (Nat.lt_of_lt_of_le F0.lt hg15)
            have d1 : ¬ gb = g15 := Nat.ne_of_lt (Nat.lt_of_lt_of_le F1.lt hg15)
            have d3 : ¬ gh = g15 := Nat.ne_of_lt (Nat.lt_of_lt_of_le HB.lt hg15)
            have CW : w.heap.size ≤ g15 := Nat.le_trans CC.size hg15
            have OE := hE.new [g15] (by simpa using hg15)
            have OF := hF.new [g15] (by simpa using hg15)
            replace F0 := F0.chg k (by simp)
            replace F1 := F1.chg k (by simp)
            replace F2 := F2.chg k (by simp)
            replace HB := HB.chg k (by simp)
            replace hE := hE.chg k (Off.nil _)
            replace hF := hF.chg k (Off.nil _)
            replace CC := CC.trans1 k
            refine (‹∀ (a : Act) (w : World), Code.wp Try.prog _ _ a w → _› : ∀ (a : Act) (w : World), _ → _) _ _ ?_
            exact fermat_t2 a b ra rb ve vf n1 n2 f1 f2 Hv la lb mab maa lab laa KHv HLa HLb Hmab Hmaa rmab rmaa HLab HLaa HLaaN HLav HLbv HLm HLH ga gb g1 gh cap g15 hc1 hc2 w _ F0 F1 F2 HB FW d0 d1 d3 CW OE OF hE hF CC
end Go.Proofs.Ytcdgkhejbdlapab
