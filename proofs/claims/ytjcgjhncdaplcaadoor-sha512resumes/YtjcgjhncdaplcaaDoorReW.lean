/- Sha512Resumes: the walk. -/
import Derived.Test.YtjcgjhncdaplcaaDoorH26
import Derived.Test.YtjcgjhncdaplcaaDoorH10
import Derived.Test.YtjcgjhncdaplcaaDoorH15
import Derived.Test.YtjcgjhncdaplcaaDoorChainWalk
import Derived.Test.YtjcgjhncdaplcaaDoorGivE
set_option linter.unusedVariables false
set_option linter.unusedSimpArgs false
set_option linter.unnecessarySimpa false
namespace Go.Proofs.YtjcgjhncdaplcaaDoor
open Go.RowKit

theorem givenBytes_e2 (gb n : Nat) (v : Value) (f : Nat → Nat) (w : World) (hn : n ≤ 140737488355328) (hv : Sl w v n f) (hg : Blk w gb (gC (.slice none 0 0) (.slice none 0 0)) 39) :
    Calls Tryd.prog 9 #[.pointer (some ⟨gb, 0, none⟩), v] w fun e w' => ∃ o, e = .returned (.slice (some ⟨o, 0, none⟩) n (n + 3)) ∧ w.heap.size ≤ o ∧ Bs w' o 0 n f ∧ GI w' gb w.heap.size w'.heap.size ∧ Chg w w' [gb] := by
  have hf := sl_lt hv
  refine (GivenBytes_1 gb n v f (Array.replicate 28 (.slice none 0 0)) w hn hv (by rw [gC_rest]; exact hg)).mono ?_
  rintro e x2 ⟨r, rfl, o, la, lb, x, rfl, k, ho, bo, ox, ola, olb, bg⟩
  obtain ⟨lg, lc, rfl, p1, p2, cl⟩ := ola.form
  obtain ⟨mg, mc, rfl, p3, p4, cr⟩ := olb.form
  obtain ⟨xg, xc, rfl, p5, _, _, bx⟩ := ox.form (by omega)
  refine ⟨o, rfl, ho, ⟨bo.lt, hf, fun i hi => ?_⟩, ⟨n + 3, o, lg, lc, mg, mc, xg, xc, gvf f n, by omega, fun i _ => gvf_lt hf i, by unfold gC; exact bg, cl, cr, bo, bx, ⟨ho, bo.lt⟩, ⟨p1, p2⟩, ⟨p3, p4⟩, ⟨p5, bx.lt⟩, bg.lt, Nat.le_refl _⟩, k⟩
  rw [Nat.zero_add, bo.cell, yC_get _ _ _ (by omega)]
  unfold gvf
  rw [if_pos hi]
set_option maxHeartbeats 16000000 in
set_option maxRecDepth 100000 in
theorem resumes_walk (s t f : Nat → Nat) (p : Option Addr) (k c n m : Nat) (b : Value) (w : World) (hs : ∀ i, i < 8 → U (s i)) (hk : k ≤ 140737488355328) (hm : m ≤ 140737488355328) (hnu : n < 18446744073709551616) (hG : Gl w) (hv0 : Sl w (.slice p k c) k t) (hb0 : Sl w b m f) :
    Calls Tryd.prog 6 #[.agg (mC s (.slice p k c) n), b] w fun e w' => e = .returned (.bool true) ∧ Chg w w' [] := by
  obtain ⟨pb, cb, rfl, _⟩ := hb0.frm
  have hge : Tryd.prog.eqGuardType Tryd.prog.depth 42 = false := by kernel_rfl
  have HUS : Hid (∀ i, i < 8 → U (s i)) := hs
  have HMl : Hid (m ≤ 140737488355328) := hm
  have HNU : Hid (n < 18446744073709551616) := hnu
  have HK : Hid (k ≤ 140737488355328) := hk
  have ew : IntKind.u64.wrap (m : Int) = (m : Int) := by rw [IntKind.wrap_u64]; omega
  have HC9 : Hid ((mC s (.slice p k c) n)[9]? = some (.int .u64 (n : Int))) := mC_len _ _ _
  have HC8 : Hid ((mC s (.slice p k c) n)[8]? = some (.slice p k c)) := mC_tail _ _ _
  have HCM : Hid ((mC s (.slice p k c) n).size = 10) := mC_size _ _ _
  have HCO : Hid ((mC s (.slice p k c) n).all (·.oneCell') = true) := mC_one _ _ _ rfl
  have HSET : Hid (∀ r, (mC s (.slice p k c) n).setIfInBounds 8 r = mC s r n) := fun r => mC_setT _ _ _ _
  obtain ⟨cm, hcm⟩ : ∃ c', mC s (.slice p k c) n = c' := ⟨_, rfl⟩
  have HCMe : Hid (mC s (.slice p k c) n = cm) := hcm
  rw [hcm] at HC9 HC8 HCM HCO HSET
  rw [hcm]
  have HW2 : Hid (2 ≤ w.heap.size) := hG.lt
  have A : Blk ((w.alloc (.cells cm 73)).alloc (.cells (gC (.slice none 0 0) (.slice none 0 0)) 39)) w.heap.size cm 73 := (Blk.new _ _ _).alloc _
  have GB : Blk ((w.alloc (.cells cm 73)).alloc (.cells (gC (.slice none 0 0) (.slice none 0 0)) 39)) (w.heap.size + 1) (gC (.slice none 0 0) (.slice none 0 0)) 39 := by have q := Blk.new (w.alloc (.cells cm 73)) (gC (.slice none 0 0) (.slice none 0 0)) 39; simpa using q
  have C : Chg w ((w.alloc (.cells cm 73)).alloc (.cells (gC (.slice none 0 0) (.slice none 0 0)) 39)) [] := ((Chg.refl w []).alloc _).alloc _
  have hv := hv0.chg C (Off.nil _)
  have hb := hb0.chg C (Off.nil _)
  have GLw := hG.chg C (by simp) (by simp)
  have HOFF : Hid (∀ x, w.heap.size ≤ x → Off (.slice pb m cb) [x]) := fun x hx => hb0.new [x] (fun i hi => by simp at hi; omega)
  have HOFV : Hid (∀ x, w.heap.size ≤ x → Off (.slice p k c) [x]) := fun x hx => hv0.new [x] (fun i hi => by simp at hi; omega)
  clear hs hk hm hnu hcm hv0 hb0 hG
  go_enter Tryd.func6, Tryd.ntmps6
  go_wp2_with (first
    | (rw [zGivenB]
       generalize ((w.alloc (.cells cm 73)).alloc (.cells (gC (.slice none 0 0) (.slice none 0 0)) 39)) = w0 at *
       have N0 := Blk.new w0 zM 73
       refine load_b A 73 (.tmp 2) Tryd.underlying73 ?_ ?_ ?_ ?_ ?_ ?_
       · rfl
       · rfl
       · rfl
       · rfl
       · (rw [HCM.out]; exact MInfo))
    | (refine wpList_store_row rfl 73 _ _ rfl w0.heap.size cm rfl rfl 73 _ N0 (by rw [HCM.out]; exact MInfo) (by rw [HCM.out]; rfl) HCO.out ?_
       try (change wpList Tryd.prog _ _ _ _ ((w0.alloc (.cells zM 73)).setRow w0.heap.size cm))
       have K1 : Chg w0 ((w0.alloc (.cells zM 73)).setRow w0.heap.size cm) [] := ((Chg.refl w0 []).alloc (.cells zM 73)).setRowNew (Nat.le_refl _) _
       have HOW : Hid (w.heap.size < w0.heap.size ∧ w.heap.size + 1 < w0.heap.size) := ⟨A.lt, GB.lt⟩
       have OB := N0.setRow cm
       replace A := A.chg K1 (by simp)
       replace GB := GB.chg K1 (by simp)
       replace GLw := GLw.chg K1 (by simp) (by simp)
       replace hv := hv.chg K1 (Off.nil _)
       replace hb := hb.chg K1 (Off.nil _)
       replace C := C.trans1 K1
       clear K1 N0
       generalize ((w0.alloc (.cells zM 73)).setRow w0.heap.size cm) = w1 at *
       generalize w0.heap.size = ob at *
       have c8 := (A.cell 8).trans HC8.out))
  clear c8
  have HOB1 : Hid (ob < w1.heap.size) := OB.lt
  refine (givenBytes_e2 (w.heap.size + 1) k _ t w1 HK.out hv GB).mono ?_
  rintro e w2 ⟨o, rfl, ho, bo, GIw, k2⟩
  replace A := A.chg k2 (by simp)
  replace OB := OB.chg k2 (by have := HOW.out; simp; omega)
  replace GLw := GLw.chg k2 (by simp) (by simp only [List.mem_singleton]; have := HW2.out; omega)
  replace hv := hv.chg k2 (HOFV.out _ (by omega))
  replace hb := hb.chg k2 (HOFF.out _ (by omega))
  replace C := C.new k2 (by omega)
  have co := (OB.cell 8).trans HC8.out
  have fo := OB.frozen 8
  have SR : Sl w2 (.slice (some ⟨o, 0, none⟩) k (k + 3)) k t := Or.inr ⟨o, 0, k + 3, rfl, by omega, by have := HK.out; omega, bo⟩
  obtain ⟨c3, hc3⟩ : ∃ c3, k + 3 = c3 := ⟨_, rfl⟩
  rw [hc3] at SR
  rw [hc3]
  clear hc3
  have KS : Chg w2 (w2.setCell ⟨ob, 8, none⟩ (.slice (some ⟨o, 0, none⟩) k c3)) [ob] := (Chg.refl w2 [ob]).setIn (by simp) 8 (.slice (some ⟨o, 0, none⟩) k c3)
  have OB2 := OB.setCell 8 (.slice (some ⟨o, 0, none⟩) k c3)
  rw [HSET.out] at OB2
  have HOO : Hid (w.heap.size < ob ∧ ¬ ob = w.heap.size + 1 ∧ ob < w1.heap.size ∧ w1.heap.size ≤ o) := by have h1 := HOW.out; have h2 := HOB1.out; show w.heap.size < ob ∧ ¬ ob = w.heap.size + 1 ∧ ob < w1.heap.size ∧ w1.heap.size ≤ o; omega
  replace A := A.chg KS (by simp; have := HOO.out; omega)
  replace GLw := GLw.chg KS (by simp; have := HOO.out; omega) (by simp; have := HOO.out; have := HW2.out; omega)
  replace hv := hv.chg KS (HOFV.out _ (by have := HOO.out; omega))
  replace hb := hb.chg KS (HOFF.out _ (by have := HOO.out; omega))
  replace SR := SR.chg KS (by
    intro g o' n' c' he hg
    simp only [Value.slice.injEq, Option.some.injEq, Addr.mk.injEq] at he
    simp only [List.mem_singleton] at hg
    have := HOO.out
    omega)
  replace GIw := GIw.chg KS (fun x hx => by simp only [List.mem_singleton] at hx; subst hx; have := HOO.out; exact ⟨Or.inl (by omega), by omega⟩)
  replace C := C.new KS (by have := HOO.out; omega)
  obtain ⟨cr, hcr⟩ : ∃ c', mC s (.slice (some ⟨o, 0, none⟩) k c3) n = c' := ⟨_, rfl⟩
  have HCR : Hid (mC s (.slice (some ⟨o, 0, none⟩) k c3) n = cr) := hcr
  have HCRs : Hid (cr.size = 10) := by show cr.size = 10; rw [← hcr]; exact mC_size _ _ _
  rw [hcr] at OB2
  clear hcr KS OB bo k2 GB
  go_wp2_with (with_reducible refine load_b OB2 73 (.tmp 6) Tryd.underlying73 ?_ ?_ ?_ ?_ ?_ ?_
               · rfl
               · rfl
               · rfl
               · rfl
               · (rw [HCRs.out]; exact MInfo))
  clear co fo OB2
  generalize w2.setCell ⟨ob, 8, none⟩ (.slice (some ⟨o, 0, none⟩) k c3) = w3 at *
  have HKu : Hid (k < 18446744073709551616) := by have := HK.out; show k < 18446744073709551616; omega
  by_cases hmay : may k n
  · have HMAY : Hid (∀ w, Calls Tryd.prog 37 #[.agg cm] w fun e w' => e = .returned (.int .i64 0) ∧ Chg w w' []) := fun w => by rw [← HCMe.out]; exact May_yes s p k c n w hmay
    obtain ⟨hn61, hkn⟩ := hmay
    have HKN : Hid (k = n % 128) := hkn
    have HRES : Hid (∀ w, Sl w (.slice (some ⟨o, 0, none⟩) k c3) k t → Calls Tryd.prog 36 #[.agg cr] w fun e w' => ∃ h, e = .returned (.tuple #[.pointer (some ⟨h, 0, none⟩), .int .i64 0]) ∧ w.heap.size ≤ h ∧ Hm w' h s t n ∧ Chg w w' []) := fun w h => by
      rw [← HCR.out]
      have q := Resume_m n s t (some ⟨o, 0, none⟩) c3 w hn61 (by rw [← hkn]; exact h)
      rw [← hkn] at q
      exact q
    have HSAME : Hid (∀ w v, Sl w v (n % 128) t → Sl w (.slice p k c) k t → Calls Tryd.prog 33 #[.agg (mC s v n), .agg cm] w fun e w' => e = .returned (.bool true) ∧ Chg w w' []) := fun w v h1 h2 => by
      rw [← HCMe.out]
      exact sameMid_t s t v _ k n w HUS.out (by rw [hkn]; exact h1) h2
    have HNUm : Hid (n + m < 18446744073709551616) := by have := HMl.out; show n + m < 18446744073709551616; omega
    have HSZ3 : Hid (w.heap.size < w3.heap.size) := A.lt
    clear hn61 hkn
    refine (HRES.out _ SR).mono ?_
    rintro e y ⟨hh, rfl, hhg, HH, k4⟩
    replace A := A.chg k4 (by simp)
    replace GLw := GLw.chg k4 (by simp) (by simp)
    replace GIw := GIw.chg0 k4
    replace hv := hv.chg k4 (Off.nil _)
    replace hb := hb.chg k4 (Off.nil _)
    replace C := C.trans1 k4
    have HHG : Hid (w.heap.size ≤ hh) := by have := HSZ3.out; show w.heap.size ≤ hh; omega
    have HMH : Hid (¬ w.heap.size = hh) := by have := HSZ3.out; show ¬ w.heap.size = hh; omega
    have HOV : Hid (Off (.slice p k c) [hh]) := HOFV.out hh HHG.out
    clear k4 hhg HRES SR
    go_wp2_with fail
    have A0 := A
    refine wp_region_held_drew (S := fun w' => Chg y w' []) (by kernel_rfl) ((Chg.refl y _).drew) (fun hHeld => ?_)
    replace A := A.chg ((Chg.refl y []).drew) (by simp)
    replace GIw := GIw.chg0 ((Chg.refl y []).drew)
    replace GLw := GLw.chg ((Chg.refl y []).drew) (by simp) (by simp)
    replace hv := hv.chg ((Chg.refl y []).drew) (Off.nil _)
    replace hb := hb.chg ((Chg.refl y []).drew) (Off.nil _)
    replace C := C.trans1 ((Chg.refl y []).drew)
    replace HH := HH.chg ((Chg.refl y []).drew) (by simp)
    refine take_val (v := ?_) 0 (some 20) rfl (by kernel_rfl) (by kernel_rfl) (by kernel_rfl) (fun _ _ _ h => h) rfl rfl (fun w hSw => ?_) hHeld ?_
    rotate_left
    · (go_simp; try with_reducible rfl)
    try simp only [Act.put, List.setIfInBounds_toArray, List.set_cons_zero, List.set_cons_succ]
    refine take_load 2 (some 22) cm rfl (by kernel_rfl) (by kernel_rfl) (by kernel_rfl) (fun _ _ _ h => h) rfl rfl 73 _ rfl w.heap.size rfl 73 _ (fun w hSw => A0.chg hSw (by simp)) Tryd.underlying73 rfl (by first | (rw [HCM.out]; exact MInfo) | (rw [HCN.out]; exact MInfo) | kernel_rfl) hHeld ?_
    try simp only [Act.put, List.setIfInBounds_toArray, List.set_cons_zero, List.set_cons_succ]
    refine wpAnyH_ready (rs := [1]) (by kernel_rfl) (by simp) ?_
    refine AllReadyH.cons (o := _) rfl (fun K hK => ?_) ?_
    ·
      go_simp
      refine (num_s 0 _ (by decide) (by decide)).mono ?_
      rintro e x1 ⟨rfl, rfl⟩
      go_wp2_with fail
      refine hK.out _ _ (hHeld) (fun hHeld => ?_)
      clear hK K
      try simp only [Act.put, List.setIfInBounds_toArray, List.set_cons_zero, List.set_cons_succ]
      refine wpAnyH_ready (rs := [3]) (by kernel_rfl) (by simp) ?_
      refine AllReadyH.cons (o := _) rfl (fun K hK => ?_) ?_
      ·
        go_simp
        refine (HMAY.out _).mono ?_
        rintro e x2 ⟨rfl, k2⟩
        replace A := A.chg k2 (by simp)
        replace GIw := GIw.chg0 k2
        replace GLw := GLw.chg k2 (by simp) (by simp)
        replace hv := hv.chg k2 (Off.nil _)
        replace hb := hb.chg k2 (Off.nil _)
        replace C := C.trans1 k2
        replace HH := HH.chg k2 (by simp)
        go_wp2_with fail
        refine hK.out _ _ (hHeld.trans1 k2) (fun hHeld => ?_)
        clear hK K
        try simp only [Act.put, List.setIfInBounds_toArray, List.set_cons_zero, List.set_cons_succ]
        clear k2
        refine take_val (v := ?_) 4 (some 24) rfl (by kernel_rfl) (by kernel_rfl) (by kernel_rfl) (fun _ _ _ h => h) rfl rfl (fun w hSw => ?_) hHeld ?_
        rotate_left
        · (go_simp; try with_reducible rfl)
        try simp only [Act.put, List.setIfInBounds_toArray, List.set_cons_zero, List.set_cons_succ]
        refine take_val (v := ?_) 5 (some 25) rfl (by kernel_rfl) (by kernel_rfl) (by kernel_rfl) (fun _ _ _ h => h) rfl rfl (fun w hSw => ?_) hHeld ?_
        rotate_left
        · (go_simp; try with_reducible rfl)
        try simp only [Act.put, List.setIfInBounds_toArray, List.set_cons_zero, List.set_cons_succ]
        refine take_val (v := ?_) 6 (some 26) rfl (by kernel_rfl) (by kernel_rfl) (by kernel_rfl) (fun _ _ _ h => h) rfl rfl (fun w hSw => ?_) hHeld ?_
        rotate_left
        · (go_simp; try with_reducible rfl)
        try simp only [Act.put, List.setIfInBounds_toArray, List.set_cons_zero, List.set_cons_succ]
        refine take_val (v := ?_) 7 (some 27) rfl (by kernel_rfl) (by kernel_rfl) (by kernel_rfl) (fun _ _ _ h => h) rfl rfl (fun w hSw => ?_) hHeld ?_
        rotate_left
        · (go_simp; try with_reducible rfl)
        try simp only [Act.put, List.setIfInBounds_toArray, List.set_cons_zero, List.set_cons_succ]
        refine take_val (v := ?_) 8 (some 28) rfl (by kernel_rfl) (by kernel_rfl) (by kernel_rfl) (fun _ _ _ h => h) rfl rfl (fun w hSw => ?_) hHeld ?_
        rotate_left
        · (go_simp; try with_reducible rfl)
        try simp only [Act.put, List.setIfInBounds_toArray, List.set_cons_zero, List.set_cons_succ]
        refine wpAnyH_ready (rs := [9]) (by kernel_rfl) (by simp) ?_
        refine AllReadyH.cons (o := _) rfl (fun K hK => ?_) ?_
        ·
          go_simp
          refine (num_s 0 _ (by decide) (by decide)).mono ?_
          rintro e x3 ⟨rfl, rfl⟩
          go_wp2_with fail
          refine hK.out _ _ (hHeld) (fun hHeld => ?_)
          clear hK K
          try simp only [Act.put, List.setIfInBounds_toArray, List.set_cons_zero, List.set_cons_succ]
          refine take_val (v := ?_) 10 (some 30) rfl (by kernel_rfl) (by kernel_rfl) (by kernel_rfl) (fun _ _ _ h => h) rfl rfl (fun w hSw => ?_) hHeld ?_
          rotate_left
          · (go_simp; try with_reducible rfl)
          try simp only [Act.put, List.setIfInBounds_toArray, List.set_cons_zero, List.set_cons_succ]
          refine take_val (v := ?_) 11 (some 31) rfl (by kernel_rfl) (by kernel_rfl) (by kernel_rfl) (fun _ _ _ h => h) rfl rfl (fun w hSw => ?_) hHeld ?_
          rotate_left
          · (go_simp; try with_reducible rfl)
          try simp only [Act.put, List.setIfInBounds_toArray, List.set_cons_zero, List.set_cons_succ]
          refine take_val (v := ?_) 12 (some 32) rfl (by kernel_rfl) (by kernel_rfl) (by kernel_rfl) (fun _ _ _ h => h) rfl rfl (fun w hSw => ?_) hHeld ?_
          rotate_left
          · (go_simp; try with_reducible rfl)
          try simp only [Act.put, List.setIfInBounds_toArray, List.set_cons_zero, List.set_cons_succ]
          refine take_val (v := ?_) 13 (some 33) rfl (by kernel_rfl) (by kernel_rfl) (by kernel_rfl) (fun _ _ _ h => h) rfl rfl (fun w hSw => ?_) hHeld ?_
          rotate_left
          · (go_simp; try with_reducible rfl)
          try simp only [Act.put, List.setIfInBounds_toArray, List.set_cons_zero, List.set_cons_succ]
          refine wpAnyH_ready (rs := [14]) (by kernel_rfl) (by simp) ?_
          refine AllReadyH.cons (o := _) rfl (fun K hK => ?_) ?_
          ·
            go_simp
            refine (GI.intact GIw).mono ?_
            rintro e x4 ⟨rfl, k4⟩
            replace A := A.chg k4 (by simp)
            replace GIw := GIw.chg0 k4
            replace GLw := GLw.chg k4 (by simp) (by simp)
            replace hv := hv.chg k4 (Off.nil _)
            replace hb := hb.chg k4 (Off.nil _)
            replace C := C.trans1 k4
            replace HH := HH.chg k4 (by simp)
            go_wp2_with fail
            refine hK.out _ _ (hHeld.trans1 k4) (fun hHeld => ?_)
            clear hK K
            try simp only [Act.put, List.setIfInBounds_toArray, List.set_cons_zero, List.set_cons_succ]
            clear k4
            refine take_val (v := ?_) 15 (some 35) rfl (by kernel_rfl) (by kernel_rfl) (by kernel_rfl) (fun _ _ _ h => h) rfl rfl (fun w hSw => ?_) hHeld ?_
            rotate_left
            · (go_simp; try with_reducible rfl)
            try simp only [Act.put, List.setIfInBounds_toArray, List.set_cons_zero, List.set_cons_succ]
            refine take_val (v := ?_) 16 (some 36) rfl (by kernel_rfl) (by kernel_rfl) (by kernel_rfl) (fun _ _ _ h => h) rfl rfl (fun w hSw => ?_) hHeld ?_
            rotate_left
            · (go_simp; try with_reducible rfl)
            try simp only [Act.put, List.setIfInBounds_toArray, List.set_cons_zero, List.set_cons_succ]
            refine wpAnyH_done (by kernel_rfl) ?_ _
            have hA9 := (A.cell 9).trans HC9.out
            obtain ⟨N1, hN1⟩ : ∃ N, n + m = N := ⟨_, rfl⟩
            by_cases hbig : n + m < 2305843009213693952
            · have hI : ¬ (2305843009213693952 : Int) ≤ (N1 : Int) := by omega
              have HNL : Hid (n + m < 2305843009213693952) := hbig
              have ea : IntKind.u64.wrap ((n : Int) + (m : Int)) = (N1 : Int) := by rw [IntKind.wrap_u64]; omega
              clear hbig hN1
              go_wp2_with fail
              have A0 := A
              refine wp_region_held_drew (S := fun w' => Chg x4 w' []) (by kernel_rfl) ((Chg.refl x4 _).drew) (fun hHeld => ?_)
              replace A := A.chg ((Chg.refl x4 []).drew) (by simp)
              replace GIw := GIw.chg0 ((Chg.refl x4 []).drew)
              replace GLw := GLw.chg ((Chg.refl x4 []).drew) (by simp) (by simp)
              replace hv := hv.chg ((Chg.refl x4 []).drew) (Off.nil _)
              replace hb := hb.chg ((Chg.refl x4 []).drew) (Off.nil _)
              replace C := C.trans1 ((Chg.refl x4 []).drew)
              replace HH := HH.chg ((Chg.refl x4 []).drew) (by simp)
              refine take_val (v := ?_) 0 (some 49) rfl (by kernel_rfl) (by kernel_rfl) (by kernel_rfl) (fun _ _ _ h => h) rfl rfl (fun w hSw => ?_) hHeld ?_
              rotate_left
              · (go_simp; try with_reducible rfl)
              try simp only [Act.put, List.setIfInBounds_toArray, List.set_cons_zero, List.set_cons_succ]
              refine take_load 2 (some 51) cm rfl (by kernel_rfl) (by kernel_rfl) (by kernel_rfl) (fun _ _ _ h => h) rfl rfl 73 _ rfl w.heap.size rfl 73 _ (fun w hSw => A0.chg hSw (by simp)) Tryd.underlying73 rfl (by first | (rw [HCM.out]; exact MInfo) | (rw [HCN.out]; exact MInfo) | kernel_rfl) hHeld ?_
              try simp only [Act.put, List.setIfInBounds_toArray, List.set_cons_zero, List.set_cons_succ]
              refine wpAnyH_ready (rs := [1]) (by kernel_rfl) (by simp) ?_
              refine AllReadyH.cons (o := _) rfl (fun K hK => ?_) ?_
              ·
                go_simp
                refine (HH.state HNU.out).mono ?_
                rintro e x1 ⟨z, rfl, hz, SZ1, _, k1⟩
                replace A := A.chg k1 (by simp)
                replace GIw := GIw.chg0 k1
                replace GLw := GLw.chg k1 (by simp) (by simp)
                replace hv := hv.chg k1 (Off.nil _)
                replace hb := hb.chg k1 (Off.nil _)
                replace C := C.trans1 k1
                replace HH := HH.chg k1 (by simp)
                go_wp2_with fail
                refine hK.out _ _ (hHeld.trans1 k1) (fun hHeld => ?_)
                clear hK K
                try simp only [Act.put, List.setIfInBounds_toArray, List.set_cons_zero, List.set_cons_succ]
                clear k1
                refine wpAnyH_ready (rs := [3]) (by kernel_rfl) (by simp) ?_
                refine AllReadyH.cons (o := _) rfl (fun K hK => ?_) ?_
                ·
                  go_simp
                  refine (HSAME.out _ _ SZ1 hv).mono ?_
                  rintro e x2 ⟨rfl, k2⟩
                  replace A := A.chg k2 (by simp)
                  replace GIw := GIw.chg0 k2
                  replace GLw := GLw.chg k2 (by simp) (by simp)
                  replace hv := hv.chg k2 (Off.nil _)
                  replace hb := hb.chg k2 (Off.nil _)
                  replace C := C.trans1 k2
                  replace HH := HH.chg k2 (by simp)
                  go_wp2_with fail
                  refine hK.out _ _ (hHeld.trans1 k2) (fun hHeld => ?_)
                  clear hK K
                  try simp only [Act.put, List.setIfInBounds_toArray, List.set_cons_zero, List.set_cons_succ]
                  clear k2
                  refine take_val (v := ?_) 4 (some 53) rfl (by kernel_rfl) (by kernel_rfl) (by kernel_rfl) (fun _ _ _ h => h) rfl rfl (fun w hSw => ?_) hHeld ?_
                  rotate_left
                  · (go_simp; try with_reducible rfl)
                  try simp only [Act.put, List.setIfInBounds_toArray, List.set_cons_zero, List.set_cons_succ]
                  refine wpAnyH_done (by kernel_rfl) ?_ _
                  have HUM : Hid (m ≤ 140737488355328) := HMl.out
                  have HOF : Hid (Off (.slice pb m cb) [hh]) := HOFF.out hh HHG.out
                  have H2 : Hid (2 ≤ hh) := by have := HHG.out; have := HW2.out; show 2 ≤ hh; omega
                  clear hI
                  go_wp2_with fail
                  refine (HH.write GLw HUS.out H2.out hb HOF.out (by have := HNL.out; omega)).mono ?_
                  rintro e y1 ⟨rfl, k1, HH1⟩
                  replace C := C.new k1 HHG.out
                  replace A := A.chg k1 (by simp; have := HMH.out; omega)
                  replace GLw := GLw.chg k1 (by have := H2.out; simp; omega) (by have := H2.out; simp; omega)
                  replace hv := hv.chg k1 HOV.out
                  replace hb := hb.chg k1 HOF.out
                  clear k1 HH GIw
                  have HMORE : Hid (∀ w, Sl w (.slice p k c) k t → Sl w (.slice pb m cb) m f → Calls Tryd.prog 29 #[.agg cm, .slice pb m cb] w fun e w' => ∃ tv, e = .returned (.agg (mC (mw s t n f m) tv (n + m))) ∧ Sl w' tv ((n + m) % 128) (mt t n f m) ∧ Chg w w' []) := fun w h1 h2 => by rw [← HCMe.out]; exact More_m s t f n m (.slice p k c) (.slice pb m cb) w HUS.out HUM.out (by have := HNL.out; omega) (by rw [← HKN.out]; exact h1) h2
                  go_wp2_with (with_reducible refine load_b A 73 (.tmp 2) Tryd.underlying73 ?_ ?_ ?_ ?_ ?_ ?_
                               · rfl
                               · rfl
                               · rfl
                               · rfl
                               · (rw [HCM.out]; exact MInfo))
                  refine (HMORE.out _ hv hb).mono ?_
                  rintro e y2 ⟨tv, rfl, SN, k2⟩
                  replace C := C.trans1 k2
                  replace GLw := GLw.chg k2 (by simp) (by simp)
                  have HH := HH1.chg k2 (by simp)
                  clear k2 HMORE hv hb A HH1
                  have HU2 : Hid (∀ i, i < 8 → U (mw s t n f m i)) := mw_U HUS.out _ _ _ _
                  obtain ⟨S2, hS2⟩ : ∃ S, mw s t n f m = S := ⟨_, rfl⟩
                  obtain ⟨T2, hT2⟩ : ∃ T, mt t n f m = T := ⟨_, rfl⟩
                  obtain ⟨N2, hN2⟩ : ∃ N, n + m = N := ⟨_, rfl⟩
                  rw [hS2, hT2, hN2] at HH
                  rw [hT2, hN2] at SN
                  rw [hS2] at HU2
                  rw [hS2, hN2]
                  have HNU2 : Hid (N2 < 18446744073709551616) := by have := HNL.out; show N2 < 18446744073709551616; omega
                  have HN61 : Hid (N2 < 2305843009213693952) := by have := HNL.out; show N2 < 2305843009213693952; omega
                  clear hS2 hT2 hN2
                  obtain ⟨ptv, ctv, rfl, _⟩ := SN.frm
                  have HN8 : Hid ((mC S2 (.slice ptv (N2 % 128) ctv) N2)[8]? = some (.slice ptv (N2 % 128) ctv)) := mC_tail _ _ _
                  have HN9 : Hid ((mC S2 (.slice ptv (N2 % 128) ctv) N2)[9]? = some (.int .u64 (N2 : Int))) := mC_len _ _ _
                  have HRG : Hid (∀ W, Blk W y2.heap.size (mC S2 (.slice ptv (N2 % 128) ctv) N2) 73 → W.rangeAt y2.heap.size 0 (vL 8 S2)) := fun W h => mid_range h
                  have HCN : Hid ((mC S2 (.slice ptv (N2 % 128) ctv) N2).size = 10) := mC_size _ _ _
                  have HCO : Hid ((mC S2 (.slice ptv (N2 % 128) ctv) N2).all (·.oneCell') = true) := mC_one _ _ _ rfl
                  have HFIN : Hid (∀ w, Sl w (.slice ptv (N2 % 128) ctv) (N2 % 128) T2 → Calls Tryd.prog 31 #[.agg (vC 8 S2), .slice ptv (N2 % 128) ctv, .int .u64 (N2 : Int)] w fun e w' => e = .returned (.agg (yC 64 (fh S2 T2 N2))) ∧ Chg w w' []) := fun w h => Finish_m S2 T2 N2 _ w HU2.out HN61.out h
                  have HSAM2 : Hid (∀ w v, Sl w v (N2 % 128) T2 → Sl w (.slice ptv (N2 % 128) ctv) (N2 % 128) T2 → Calls Tryd.prog 33 #[.agg (mC S2 v N2), .agg (mC S2 (.slice ptv (N2 % 128) ctv) N2)] w fun e w' => e = .returned (.bool true) ∧ Chg w w' []) := fun w v h1 h2 => sameMid_t S2 T2 v _ _ N2 w HU2.out h1 h2
                  have HLN : Hid ((vL 8 S2).length = 8) := vL_len _ _
                  have HLA : Hid ((vL 8 S2).toArray = vC 8 S2) := vL_arr _ _
                  have heqd : ∀ w, (Op.equalIn 10000 42 (.agg (yC 64 (fh S2 T2 N2))) (.agg (yC 64 (fh S2 T2 N2)))).run Tryd.prog w = .ok true w := fun w => by rw [eq_dig, eqy_self]
                  obtain ⟨cn, hcn⟩ : ∃ c, mC S2 (.slice ptv (N2 % 128) ctv) N2 = c := ⟨_, rfl⟩
                  have HCNe : Hid (mC S2 (.slice ptv (N2 % 128) ctv) N2 = cn) := hcn
                  obtain ⟨dg, hdg⟩ : ∃ d, yC 64 (fh S2 T2 N2) = d := ⟨_, rfl⟩
                  have HDG : Hid (yC 64 (fh S2 T2 N2) = dg) := hdg
                  obtain ⟨l8, hl8⟩ : ∃ l, vL 8 S2 = l := ⟨_, rfl⟩
                  obtain ⟨c8, hc8⟩ : ∃ c, vC 8 S2 = c := ⟨_, rfl⟩
                  rw [hcn] at HN8 HN9 HRG HCN HCO HSAM2
                  rw [hcn]
                  rw [hdg] at HFIN heqd
                  rw [hc8] at HFIN HLA
                  rw [hl8] at HRG HLN HLA
                  clear hcn hdg hl8 hc8
                  have N0 := Blk.new y2 zM 73
                  have K3 : Chg y2 ((y2.alloc (.cells zM 73)).setRow y2.heap.size cn) [] := ((Chg.refl y2 []).alloc (.cells zM 73)).setRowNew (Nat.le_refl _) _
                  have NB := N0.setRow cn
                  replace C := C.trans1 K3
                  replace GLw := GLw.chg K3 (by simp) (by simp)
                  replace HH := HH.chg K3 (by simp)
                  replace SN := SN.chg K3 (Off.nil _)
                  clear K3
                  go_wp2_with (refine wpList_store_row rfl 73 _ _ rfl y2.heap.size cn rfl rfl 73 _ N0 (by rw [HCN.out]; exact MInfo) (by rw [HCN.out]; rfl) HCO.out ?_)
                  try (change Code.wp _ _ _ _ ((y2.alloc (.cells zM 73)).setRow y2.heap.size cn))
                  clear N0
                  generalize ((y2.alloc (.cells zM 73)).setRow y2.heap.size cn) = y3 at *
                  generalize y2.heap.size = nb at *
                  have N0 := NB
                  refine wp_region_held_drew (S := fun w' => Chg y3 w' []) (by kernel_rfl) ((Chg.refl y3 _).drew) (fun hHeld => ?_)
                  replace HH := HH.chg ((Chg.refl y3 []).drew) (by simp)
                  replace SN := SN.chg ((Chg.refl y3 []).drew) (Off.nil _)
                  replace GLw := GLw.chg ((Chg.refl y3 []).drew) (by simp) (by simp)
                  replace C := C.trans1 ((Chg.refl y3 []).drew)
                  replace NB := NB.chg ((Chg.refl y3 []).drew) (by simp)
                  refine take_val (v := ?_) 0 (some 60) rfl (by kernel_rfl) (by kernel_rfl) (by kernel_rfl) (fun _ _ _ h => h) rfl rfl (fun w hSw => ?_) hHeld ?_
                  rotate_left
                  · (go_simp; try with_reducible rfl)
                  try simp only [Act.put, List.setIfInBounds_toArray, List.set_cons_zero, List.set_cons_succ]
                  refine take_load 2 (some 62) cn rfl (by kernel_rfl) (by kernel_rfl) (by kernel_rfl) (fun _ _ _ h => h) rfl rfl 73 _ rfl nb rfl 73 _ (fun w hSw => N0.chg hSw (by simp)) Tryd.underlying73 rfl (by first | (rw [HCM.out]; exact MInfo) | (rw [HCN.out]; exact MInfo) | kernel_rfl) hHeld ?_
                  try simp only [Act.put, List.setIfInBounds_toArray, List.set_cons_zero, List.set_cons_succ]
                  refine wpAnyH_ready (rs := [1]) (by kernel_rfl) (by simp) ?_
                  refine AllReadyH.cons (o := _) rfl (fun K hK => ?_) ?_
                  ·
                    go_simp
                    refine (HH.state HNU2.out).mono ?_
                    rintro e x1 ⟨z, rfl, hz, SZ1, _, k1⟩
                    replace HH := HH.chg k1 (by simp)
                    replace SN := SN.chg k1 (Off.nil _)
                    replace GLw := GLw.chg k1 (by simp) (by simp)
                    replace C := C.trans1 k1
                    replace NB := NB.chg k1 (by simp)
                    go_wp2_with fail
                    refine hK.out _ _ (hHeld.trans1 k1) (fun hHeld => ?_)
                    clear hK K
                    try simp only [Act.put, List.setIfInBounds_toArray, List.set_cons_zero, List.set_cons_succ]
                    clear k1
                    refine wpAnyH_ready (rs := [3]) (by kernel_rfl) (by simp) ?_
                    refine AllReadyH.cons (o := _) rfl (fun K hK => ?_) ?_
                    ·
                      go_simp
                      refine (HSAM2.out _ _ SZ1 SN).mono ?_
                      rintro e x2 ⟨rfl, k2⟩
                      replace HH := HH.chg k2 (by simp)
                      replace SN := SN.chg k2 (Off.nil _)
                      replace GLw := GLw.chg k2 (by simp) (by simp)
                      replace C := C.trans1 k2
                      replace NB := NB.chg k2 (by simp)
                      clear SZ1
                      go_wp2_with fail
                      refine hK.out _ _ (hHeld.trans1 k2) (fun hHeld => ?_)
                      clear hK K
                      try simp only [Act.put, List.setIfInBounds_toArray, List.set_cons_zero, List.set_cons_succ]
                      clear k2
                      refine take_val (v := ?_) 4 (some 64) rfl (by kernel_rfl) (by kernel_rfl) (by kernel_rfl) (fun _ _ _ h => h) rfl rfl (fun w hSw => ?_) hHeld ?_
                      rotate_left
                      · (go_simp; try with_reducible rfl)
                      try simp only [Act.put, List.setIfInBounds_toArray, List.set_cons_zero, List.set_cons_succ]
                      refine take_val (v := ?_) 5 (some 65) rfl (by kernel_rfl) (by kernel_rfl) (by kernel_rfl) (fun _ _ _ h => h) rfl rfl (fun w hSw => ?_) hHeld ?_
                      rotate_left
                      · (go_simp; try with_reducible rfl)
                      try simp only [Act.put, List.setIfInBounds_toArray, List.set_cons_zero, List.set_cons_succ]
                      refine take_val (v := ?_) 7 (some 67) rfl (by kernel_rfl) (by kernel_rfl) (by kernel_rfl) (fun _ _ _ h => h) rfl rfl (fun w hSw => ?_) hHeld ?_
                      rotate_left
                      · (go_simp; try with_reducible rfl)
                      try simp only [Act.put, List.setIfInBounds_toArray, List.set_cons_zero, List.set_cons_succ]
                      refine take_val (v := (.agg c8)) 8 (some 68) rfl (by kernel_rfl) (by kernel_rfl) (by kernel_rfl) (fun _ _ _ h => h) rfl rfl (fun w hSw => ?_) hHeld ?_
                      · exact exec_load_mid w 53 (.tmp 67) rfl nb 0 rfl l8 _ (HRG.out _ (N0.chg hSw (by simp))) Tryd.underlying53 rfl (by rw [HLN.out]; exact S8Info) HLA.out
                      try simp only [Act.put, List.setIfInBounds_toArray, List.set_cons_zero, List.set_cons_succ]
                      refine take_val (v := ?_) 9 (some 69) rfl (by kernel_rfl) (by kernel_rfl) (by kernel_rfl) (fun _ _ _ h => h) rfl rfl (fun w hSw => ?_) hHeld ?_
                      rotate_left
                      · (go_simp; try with_reducible rfl)
                      try simp only [Act.put, List.setIfInBounds_toArray, List.set_cons_zero, List.set_cons_succ]
                      refine take_val (v := ?_) 10 (some 70) rfl (by kernel_rfl) (by kernel_rfl) (by kernel_rfl) (fun _ _ _ h => h) rfl rfl (fun w hSw => ?_) hHeld ?_
                      rotate_left
                      · have cx := ((N0.chg hSw (by simp)).cell 8).trans HN8.out
                        (go_simp; try with_reducible rfl)
                      try simp only [Act.put, List.setIfInBounds_toArray, List.set_cons_zero, List.set_cons_succ]
                      refine take_val (v := ?_) 11 (some 71) rfl (by kernel_rfl) (by kernel_rfl) (by kernel_rfl) (fun _ _ _ h => h) rfl rfl (fun w hSw => ?_) hHeld ?_
                      rotate_left
                      · (go_simp; try with_reducible rfl)
                      try simp only [Act.put, List.setIfInBounds_toArray, List.set_cons_zero, List.set_cons_succ]
                      refine take_val (v := ?_) 12 (some 72) rfl (by kernel_rfl) (by kernel_rfl) (by kernel_rfl) (fun _ _ _ h => h) rfl rfl (fun w hSw => ?_) hHeld ?_
                      rotate_left
                      · have cx := ((N0.chg hSw (by simp)).cell 9).trans HN9.out
                        (go_simp; try with_reducible rfl)
                      try simp only [Act.put, List.setIfInBounds_toArray, List.set_cons_zero, List.set_cons_succ]
                      refine wpAnyH_ready (rs := [6]) (by kernel_rfl) (by simp) ?_
                      refine AllReadyH.cons (o := _) rfl (fun K hK => ?_) ?_
                      ·
                        go_simp
                        refine (HH.sum GLw HU2.out HNU2.out).mono ?_
                        rintro e x3 ⟨rfl, k3⟩
                        replace SN := SN.chg k3 (Off.nil _)
                        replace GLw := GLw.chg k3 (by simp) (by simp)
                        replace C := C.trans1 k3
                        replace NB := NB.chg k3 (by simp)
                        rw [HDG.out]
                        go_wp2_with fail
                        refine hK.out _ _ (hHeld.trans1 k3) (fun hHeld => ?_)
                        clear hK K
                        try simp only [Act.put, List.setIfInBounds_toArray, List.set_cons_zero, List.set_cons_succ]
                        clear k3
                        refine wpAnyH_ready (rs := [13]) (by kernel_rfl) (by simp) ?_
                        refine AllReadyH.cons (o := _) rfl (fun K hK => ?_) ?_
                        ·
                          go_simp
                          refine (HFIN.out _ SN).mono ?_
                          rintro e x4 ⟨rfl, k4⟩
                          replace GLw := GLw.chg k4 (by simp) (by simp)
                          replace C := C.trans1 k4
                          go_wp2_with fail
                          refine hK.out _ _ (hHeld.trans1 k4) (fun hHeld => ?_)
                          clear hK K
                          try simp only [Act.put, List.setIfInBounds_toArray, List.set_cons_zero, List.set_cons_succ]
                          clear k4
                          refine take_val (v := ?_) 14 (some 74) rfl (by kernel_rfl) (by kernel_rfl) (by kernel_rfl) (fun _ _ _ h => h) rfl rfl (fun w hSw => ?_) hHeld ?_
                          rotate_left
                          · (go_simp; try with_reducible rfl)
                          try simp only [Act.put, List.setIfInBounds_toArray, List.set_cons_zero, List.set_cons_succ]
                          refine take_val (v := ?_) 15 (some 75) rfl (by kernel_rfl) (by kernel_rfl) (by kernel_rfl) (fun _ _ _ h => h) rfl rfl (fun w hSw => ?_) hHeld ?_
                          rotate_left
                          · (go_simp; try with_reducible rfl)
                          try simp only [Act.put, List.setIfInBounds_toArray, List.set_cons_zero, List.set_cons_succ]
                          refine take_val (v := ?_) 16 (some 76) rfl (by kernel_rfl) (by kernel_rfl) (by kernel_rfl) (fun _ _ _ h => h) rfl rfl (fun w hSw => ?_) hHeld ?_
                          rotate_left
                          · (go_simp; try with_reducible rfl)
                          try simp only [Act.put, List.setIfInBounds_toArray, List.set_cons_zero, List.set_cons_succ]
                          refine wpAnyH_ready (rs := [17]) (by kernel_rfl) (by simp) ?_
                          refine AllReadyH.cons (o := _) rfl (fun K hK => ?_) ?_
                          ·
                            go_simp
                            refine (alive_s _ GLw).mono ?_
                            rintro e x5 ⟨rfl, k5⟩
                            replace C := C.trans1 k5
                            go_wp2_with fail
                            refine hK.out _ _ (hHeld.trans1 k5) (fun hHeld => ?_)
                            clear hK K
                            try simp only [Act.put, List.setIfInBounds_toArray, List.set_cons_zero, List.set_cons_succ]
                            clear k5
                            refine take_val (v := ?_) 18 (some 78) rfl (by kernel_rfl) (by kernel_rfl) (by kernel_rfl) (fun _ _ _ h => h) rfl rfl (fun w hSw => ?_) hHeld ?_
                            rotate_left
                            · (go_simp; try with_reducible rfl)
                            try simp only [Act.put, List.setIfInBounds_toArray, List.set_cons_zero, List.set_cons_succ]
                            refine take_val (v := ?_) 19 (some 4) rfl (by kernel_rfl) (by kernel_rfl) (by kernel_rfl) (fun _ _ _ h => h) rfl rfl (fun w hSw => ?_) hHeld ?_
                            rotate_left
                            · (go_simp; try with_reducible rfl)
                            try simp only [Act.put, List.setIfInBounds_toArray, List.set_cons_zero, List.set_cons_succ]
                            refine wpAnyH_done (by kernel_rfl) ?_ _
                            go_wp2_with fail
                            go_ret
                            exact ⟨rfl, C⟩
                          exact AllReadyH.nil
                        exact AllReadyH.nil
                      exact AllReadyH.nil
                    exact AllReadyH.nil
                  exact AllReadyH.nil
                exact AllReadyH.nil
              exact AllReadyH.nil
            · have hI : (2305843009213693952 : Int) ≤ (N1 : Int) := by omega
              have ea : IntKind.u64.wrap ((n : Int) + (m : Int)) = (N1 : Int) := by have := HNUm.out; rw [IntKind.wrap_u64]; omega
              clear hbig hN1
              go_wp2_with fail
              refine (alive_s _ GLw).mono ?_
              rintro e w9 ⟨rfl, k9⟩
              replace C := C.trans1 k9
              clear k9
              go_wp2_with fail
              go_ret
              exact ⟨rfl, C⟩
          exact AllReadyH.nil
        exact AllReadyH.nil
      exact AllReadyH.nil
    exact AllReadyH.nil
  · have HMAY : Hid (∀ w, Calls Tryd.prog 37 #[.agg cm] w fun e w' => e = .returned (.int .i64 1) ∧ Chg w w' []) := fun w => by rw [← HCMe.out]; exact May_no s p k c n w HKu.out hmay
    have HRES : Hid (∀ w, Calls Tryd.prog 36 #[.agg cr] w fun e w' => e = .returned (.tuple #[.pointer none, .int .i64 1]) ∧ Chg w w' []) := fun w => by
      rw [← HCR.out]
      exact Resume_no s (some ⟨o, 0, none⟩) k c3 n w HKu.out hmay
    clear hmay
    refine (HRES.out _).mono ?_
    rintro e y ⟨rfl, k4⟩
    replace A := A.chg k4 (by simp)
    replace GLw := GLw.chg k4 (by simp) (by simp)
    replace GIw := GIw.chg0 k4
    replace hv := hv.chg k4 (Off.nil _)
    replace hb := hb.chg k4 (Off.nil _)
    replace C := C.trans1 k4
    clear k4 HRES SR
    go_wp2_with fail
    have A0 := A
    refine wp_region_held_drew (S := fun w' => Chg y w' []) (by kernel_rfl) ((Chg.refl y _).drew) (fun hHeld => ?_)
    replace A := A.chg ((Chg.refl y []).drew) (by simp)
    replace GIw := GIw.chg0 ((Chg.refl y []).drew)
    replace GLw := GLw.chg ((Chg.refl y []).drew) (by simp) (by simp)
    replace hv := hv.chg ((Chg.refl y []).drew) (Off.nil _)
    replace hb := hb.chg ((Chg.refl y []).drew) (Off.nil _)
    replace C := C.trans1 ((Chg.refl y []).drew)
    refine take_val (v := ?_) 0 (some 20) rfl (by kernel_rfl) (by kernel_rfl) (by kernel_rfl) (fun _ _ _ h => h) rfl rfl (fun w hSw => ?_) hHeld ?_
    rotate_left
    · (go_simp; try with_reducible rfl)
    try simp only [Act.put, List.setIfInBounds_toArray, List.set_cons_zero, List.set_cons_succ]
    refine take_load 2 (some 22) cm rfl (by kernel_rfl) (by kernel_rfl) (by kernel_rfl) (fun _ _ _ h => h) rfl rfl 73 _ rfl w.heap.size rfl 73 _ (fun w hSw => A0.chg hSw (by simp)) Tryd.underlying73 rfl (by first | (rw [HCM.out]; exact MInfo) | (rw [HCN.out]; exact MInfo) | kernel_rfl) hHeld ?_
    try simp only [Act.put, List.setIfInBounds_toArray, List.set_cons_zero, List.set_cons_succ]
    refine wpAnyH_ready (rs := [1]) (by kernel_rfl) (by simp) ?_
    refine AllReadyH.cons (o := _) rfl (fun K hK => ?_) ?_
    ·
      go_simp
      refine (num_s 1 _ (by decide) (by decide)).mono ?_
      rintro e x1 ⟨rfl, rfl⟩
      go_wp2_with fail
      refine hK.out _ _ (hHeld) (fun hHeld => ?_)
      clear hK K
      try simp only [Act.put, List.setIfInBounds_toArray, List.set_cons_zero, List.set_cons_succ]
      refine wpAnyH_ready (rs := [3]) (by kernel_rfl) (by simp) ?_
      refine AllReadyH.cons (o := _) rfl (fun K hK => ?_) ?_
      ·
        go_simp
        refine (HMAY.out _).mono ?_
        rintro e x2 ⟨rfl, k2⟩
        replace A := A.chg k2 (by simp)
        replace GIw := GIw.chg0 k2
        replace GLw := GLw.chg k2 (by simp) (by simp)
        replace hv := hv.chg k2 (Off.nil _)
        replace hb := hb.chg k2 (Off.nil _)
        replace C := C.trans1 k2
        go_wp2_with fail
        refine hK.out _ _ (hHeld.trans1 k2) (fun hHeld => ?_)
        clear hK K
        try simp only [Act.put, List.setIfInBounds_toArray, List.set_cons_zero, List.set_cons_succ]
        clear k2
        refine take_val (v := ?_) 4 (some 24) rfl (by kernel_rfl) (by kernel_rfl) (by kernel_rfl) (fun _ _ _ h => h) rfl rfl (fun w hSw => ?_) hHeld ?_
        rotate_left
        · (go_simp; try with_reducible rfl)
        try simp only [Act.put, List.setIfInBounds_toArray, List.set_cons_zero, List.set_cons_succ]
        refine take_val (v := ?_) 5 (some 25) rfl (by kernel_rfl) (by kernel_rfl) (by kernel_rfl) (fun _ _ _ h => h) rfl rfl (fun w hSw => ?_) hHeld ?_
        rotate_left
        · (go_simp; try with_reducible rfl)
        try simp only [Act.put, List.setIfInBounds_toArray, List.set_cons_zero, List.set_cons_succ]
        refine take_val (v := ?_) 6 (some 26) rfl (by kernel_rfl) (by kernel_rfl) (by kernel_rfl) (fun _ _ _ h => h) rfl rfl (fun w hSw => ?_) hHeld ?_
        rotate_left
        · (go_simp; try with_reducible rfl)
        try simp only [Act.put, List.setIfInBounds_toArray, List.set_cons_zero, List.set_cons_succ]
        refine take_val (v := ?_) 7 (some 27) rfl (by kernel_rfl) (by kernel_rfl) (by kernel_rfl) (fun _ _ _ h => h) rfl rfl (fun w hSw => ?_) hHeld ?_
        rotate_left
        · (go_simp; try with_reducible rfl)
        try simp only [Act.put, List.setIfInBounds_toArray, List.set_cons_zero, List.set_cons_succ]
        refine take_val (v := ?_) 8 (some 28) rfl (by kernel_rfl) (by kernel_rfl) (by kernel_rfl) (fun _ _ _ h => h) rfl rfl (fun w hSw => ?_) hHeld ?_
        rotate_left
        · (go_simp; try with_reducible rfl)
        try simp only [Act.put, List.setIfInBounds_toArray, List.set_cons_zero, List.set_cons_succ]
        refine wpAnyH_ready (rs := [9]) (by kernel_rfl) (by simp) ?_
        refine AllReadyH.cons (o := _) rfl (fun K hK => ?_) ?_
        ·
          go_simp
          refine (num_s 1 _ (by decide) (by decide)).mono ?_
          rintro e x3 ⟨rfl, rfl⟩
          go_wp2_with fail
          refine hK.out _ _ (hHeld) (fun hHeld => ?_)
          clear hK K
          try simp only [Act.put, List.setIfInBounds_toArray, List.set_cons_zero, List.set_cons_succ]
          refine take_val (v := ?_) 10 (some 30) rfl (by kernel_rfl) (by kernel_rfl) (by kernel_rfl) (fun _ _ _ h => h) rfl rfl (fun w hSw => ?_) hHeld ?_
          rotate_left
          · (go_simp; try with_reducible rfl)
          try simp only [Act.put, List.setIfInBounds_toArray, List.set_cons_zero, List.set_cons_succ]
          refine take_val (v := ?_) 11 (some 31) rfl (by kernel_rfl) (by kernel_rfl) (by kernel_rfl) (fun _ _ _ h => h) rfl rfl (fun w hSw => ?_) hHeld ?_
          rotate_left
          · (go_simp; try with_reducible rfl)
          try simp only [Act.put, List.setIfInBounds_toArray, List.set_cons_zero, List.set_cons_succ]
          refine take_val (v := ?_) 12 (some 32) rfl (by kernel_rfl) (by kernel_rfl) (by kernel_rfl) (fun _ _ _ h => h) rfl rfl (fun w hSw => ?_) hHeld ?_
          rotate_left
          · (go_simp; try with_reducible rfl)
          try simp only [Act.put, List.setIfInBounds_toArray, List.set_cons_zero, List.set_cons_succ]
          refine take_val (v := ?_) 13 (some 33) rfl (by kernel_rfl) (by kernel_rfl) (by kernel_rfl) (fun _ _ _ h => h) rfl rfl (fun w hSw => ?_) hHeld ?_
          rotate_left
          · (go_simp; try with_reducible rfl)
          try simp only [Act.put, List.setIfInBounds_toArray, List.set_cons_zero, List.set_cons_succ]
          refine wpAnyH_ready (rs := [14]) (by kernel_rfl) (by simp) ?_
          refine AllReadyH.cons (o := _) rfl (fun K hK => ?_) ?_
          ·
            go_simp
            refine (GI.intact GIw).mono ?_
            rintro e x4 ⟨rfl, k4⟩
            replace A := A.chg k4 (by simp)
            replace GIw := GIw.chg0 k4
            replace GLw := GLw.chg k4 (by simp) (by simp)
            replace hv := hv.chg k4 (Off.nil _)
            replace hb := hb.chg k4 (Off.nil _)
            replace C := C.trans1 k4
            go_wp2_with fail
            refine hK.out _ _ (hHeld.trans1 k4) (fun hHeld => ?_)
            clear hK K
            try simp only [Act.put, List.setIfInBounds_toArray, List.set_cons_zero, List.set_cons_succ]
            clear k4
            refine take_val (v := ?_) 15 (some 35) rfl (by kernel_rfl) (by kernel_rfl) (by kernel_rfl) (fun _ _ _ h => h) rfl rfl (fun w hSw => ?_) hHeld ?_
            rotate_left
            · (go_simp; try with_reducible rfl)
            try simp only [Act.put, List.setIfInBounds_toArray, List.set_cons_zero, List.set_cons_succ]
            refine take_val (v := ?_) 16 (some 36) rfl (by kernel_rfl) (by kernel_rfl) (by kernel_rfl) (fun _ _ _ h => h) rfl rfl (fun w hSw => ?_) hHeld ?_
            rotate_left
            · (go_simp; try with_reducible rfl)
            try simp only [Act.put, List.setIfInBounds_toArray, List.set_cons_zero, List.set_cons_succ]
            refine wpAnyH_done (by kernel_rfl) ?_ _
            go_wp2_with fail
            refine (alive_s _ GLw).mono ?_
            rintro e w9 ⟨rfl, k9⟩
            replace C := C.trans1 k9
            clear k9
            go_wp2_with fail
            go_ret
            exact ⟨rfl, C⟩
          exact AllReadyH.nil
        exact AllReadyH.nil
      exact AllReadyH.nil
    exact AllReadyH.nil
end Go.Proofs.YtjcgjhncdaplcaaDoor
