/- Sha512Blocks: the walk. -/
import Derived.Test.YtjcgjhncdaplcaaDoorH21
import Derived.Test.YtjcgjhncdaplcaaDoorH10
import Derived.Test.YtjcgjhncdaplcaaDoorChainWalk
set_option linter.unusedVariables false
set_option linter.unusedSimpArgs false
set_option linter.unnecessarySimpa false
namespace Go.Proofs.YtjcgjhncdaplcaaDoor
open Go.RowKit

/-- From region 3 on. -/
structure BK (w y : World) (gb bs tp bx ax n : Nat) (v : Value) (f : Nat → Nat) (cs cX : Array Value) : Prop where
  sl : Sl y v n f
  gl : Gl y
  gi : GI y gb bs tp
  f0 : Blk y bx cs 53
  a1 : Blk y ax cX 53
  cc : Chg w y []
theorem Chg.drewL {a b : World} {l : List Nat} (h : Chg a b l) : Chg a.drew b l := ⟨h.os, h.tape, h.output, h.size, h.block⟩
theorem BK.make {w w0 CU : World} {gb bs tp bx ax n : Nat} {v : Value} {f : Nat → Nat} {cs cX : Array Value} (A1 : Blk CU ax #[.int .u64 0, .int .u64 0, .int .u64 0, .int .u64 0, .int .u64 0, .int .u64 0, .int .u64 0, .int .u64 0] 53) (SL : Sl CU v n f) (GLc : Gl CU) (GI2 : GI CU gb bs tp) (HAX : (ax < bs ∨ tp ≤ ax) ∧ ¬ ax = gb) (F0 : Blk w0 bx cs 53) (HBX : ¬ bx ∈ [gb])
    (hH : Chg w0 (CU.setRow ax cX) [gb]) (K0 : Chg w w0 []) (hgb : w.heap.size ≤ gb) (hoff : Off v [ax]) (h2 : 2 ≤ ax) : BK w (CU.setRow ax cX) gb bs tp bx ax n v f cs cX := by
  have KS : Chg CU (CU.setRow ax cX) [ax] := Chg.of (gb_setRow (gb_refl _ _) _)
  exact ⟨SL.chg KS hoff, GLc.chg KS (by simp; omega) (by simp; omega), GI2.chg KS (fun x hx => by simp at hx; subst hx; exact HAX), F0.chg hH HBX, A1.setRow cX, K0.trans hH (fun x hx => by simp at hx; subst hx; exact Or.inr hgb)⟩
theorem BK.chg {w y y' : World} {gb bs tp bx ax n : Nat} {v : Value} {f : Nat → Nat} {cs cX : Array Value} (h : BK w y gb bs tp bx ax n v f cs cX) (k : Chg y y' []) : BK w y' gb bs tp bx ax n v f cs cX :=
  ⟨h.sl.chg k (Off.nil _), h.gl.chg k (by simp) (by simp), h.gi.chg0 k, h.f0.chg k (by simp), h.a1.chg k (by simp), h.cc.trans1 k⟩
set_option maxHeartbeats 16000000 in
set_option maxRecDepth 100000 in
theorem blocks_walk (s : Nat → Nat) (hs : ∀ i, i < 8 → U (s i)) (v : Value) (n : Nat) (f : Nat → Nat) (hn : n ≤ 140737488355328) (q : Nat) (w : World) (hGl : Gl w) (hS : Sl w v n f) :
    Calls Tryd.prog 4 #[.agg (vC 8 s), v, .int .u64 (q : Int)] w fun e w' => e = .returned (.bool true) ∧ Chg w w' [] := by
  have hg8 := s8Guard
  have hg80 := w80Guard
  obtain ⟨X, E, hE0, hE1, hc1, hc2⟩ := compress_both n s f hs hn
  obtain ⟨pk, pF, PE, hP0, hP1, hp1, hp2⟩ := pad_both q
  obtain ⟨cs, hcs⟩ : ∃ cs, vC 8 s = cs := ⟨_, rfl⟩
  obtain ⟨cX, hcX⟩ : ∃ cX, vC 8 X = cX := ⟨_, rfl⟩
  have heq : ∀ w, (Op.equalIn 10000 53 (.agg cX) (.agg cX)).run Tryd.prog w = .ok true w := fun w => by rw [← hcX, eq_s8, eqw_self]
  have heqk : ∀ w, (Op.equalIn 10000 65 (.agg (vC 80 KK)) (.agg (vC 80 KK))).run Tryd.prog w = .ok true w := fun w => by rw [eq_w80, eqw_self]
  obtain ⟨cK, hcK⟩ : ∃ cK, vC 80 KK = cK := ⟨_, rfl⟩
  rw [hcK] at heqk
  have HCK : Hid (vC 80 KK = cK) := hcK
  have HCS : Hid (vC 8 s = cs) := hcs
  have HCX : Hid (vC 8 X = cX) := hcX
  have HCSs : Hid (cs.size = 8) := by show cs.size = 8; rw [← hcs, vC_size]
  have HCXs : Hid (cX.size = 8) := by show cX.size = 8; rw [← hcX, vC_size]
  have HCX1 : Hid (cX.all (·.oneCell') = true) := by show cX.all (·.oneCell') = true; rw [← hcX]; exact vC_one _ _
  have HC : Hid (∀ w o, Gl w → Bs w o 0 n f → Calls Tryd.prog 18 #[.agg (vC 8 s), .slice (some ⟨o, 0, none⟩) n (n + 3)] w fun e w' => e = .returned (.tuple #[.agg (vC 8 X), .int .i64 E]) ∧ Chg w w' []) := hc1
  have HR : Hid (∀ w v, Sl w v n f → Calls Tryd.prog 19 #[.agg (vC 8 s), v] w fun e w' => e = .returned (.tuple #[.agg (vC 8 X), .int .i64 E]) ∧ Chg w w' []) := hc2
  have HP : Hid (∀ w, Calls Tryd.prog 20 #[.int .u64 q] w fun e w' => ∃ v, e = .returned (.tuple #[v, .int .i64 PE]) ∧ Sl w' v pk pF ∧ Chg w w' []) := hp1
  have HQ : Hid (∀ w, Calls Tryd.prog 21 #[.int .u64 q] w fun e w' => ∃ v, e = .returned (.tuple #[v, .int .i64 PE]) ∧ Sl w' v pk pF ∧ Chg w w' []) := hp2
  have HN : Hid (n ≤ 140737488355328) := hn
  have hgl := hGl.lt
  have K0 : Chg w ((w.alloc (.cells cs 53)).alloc (.cells (gC (.slice none 0 0) (.slice none 0 0)) 39)) [] := ((Chg.refl w []).alloc _).alloc _
  have F0 : Blk ((w.alloc (.cells cs 53)).alloc (.cells (gC (.slice none 0 0) (.slice none 0 0)) 39)) w.heap.size cs 53 := (Blk.new w cs 53).alloc _
  have GB : Blk ((w.alloc (.cells cs 53)).alloc (.cells (gC (.slice none 0 0) (.slice none 0 0)) 39)) (w.heap.size + 1) (gC (.slice none 0 0) (.slice none 0 0)) 39 := by have q := Blk.new (w.alloc (.cells cs 53)) (gC (.slice none 0 0) (.slice none 0 0)) 39; simpa using q
  have SL := hS.chg K0 (Off.nil _)
  have HO : Hid (Off v [w.heap.size + 1]) := hS.new _ (by simp)
  have GLc := hGl.chg K0 (by simp) (by simp)
  have HG0 : Hid (¬ 0 ∈ [w.heap.size + 1]) := by show ¬ 0 ∈ [w.heap.size + 1]; simp
  have HG1 : Hid (¬ 1 ∈ [w.heap.size + 1]) := by show ¬ 1 ∈ [w.heap.size + 1]; intro h; simp only [List.mem_singleton] at h; omega
  have HBX : Hid (¬ w.heap.size ∈ [w.heap.size + 1]) := by show ¬ w.heap.size ∈ [w.heap.size + 1]; simp
  have HO2 : Hid (∀ a, w.heap.size + 1 + 1 ≤ a → Off v [a]) := fun a ha => hS.new [a] (fun i hi => by simp at hi; omega)
  have HW0 : Hid (w.heap.size + 1 + 1 ≤ ((w.alloc (.cells cs 53)).alloc (.cells (gC (.slice none 0 0) (.slice none 0 0)) 39)).heap.size) := by show _ ≤ _; simp
  have H2W : Hid (2 ≤ ((w.alloc (.cells cs 53)).alloc (.cells (gC (.slice none 0 0) (.slice none 0 0)) 39)).heap.size) := by show 2 ≤ _; simp
  have HGE : Hid (w.heap.size ≤ w.heap.size + 1) := by show w.heap.size ≤ w.heap.size + 1; omega
  rw [hcs]
  clear hs hcs hcX hc1 hc2 hp1 hp2 hn hS hGl hgl hcK
  go_enter Tryd.func4, Tryd.ntmps4
  go_wp2_with fail
  rw [zGivenB]
  generalize ((w.alloc (.cells cs 53)).alloc (.cells (gC (.slice none 0 0) (.slice none 0 0)) 39)) = w0 at *
  obtain ⟨gb, hgb⟩ : ∃ b, w.heap.size + 1 = b := ⟨_, rfl⟩
  obtain ⟨bx, hbx⟩ : ∃ b, w.heap.size = b := ⟨_, rfl⟩
  have HGBW : Hid (w.heap.size ≤ gb) := by show w.heap.size ≤ gb; omega
  rw [hgb] at GB HO HG0 HG1 HBX HO2 HW0
  rw [hbx] at F0 HBX
  rw [hgb, hbx]
  clear hgb hbx HGE
  refine wp_region_held_drew (S := fun w' => Chg w0 w' [gb]) (by kernel_rfl) ((Chg.refl w0 _).drew) (fun hHeld => ?_)
  replace GB := GB.drew
  replace SL := SL.chg (Chg.refl w0 []).drew (Off.nil _)
  replace GLc := GLc.chg (Chg.refl w0 []).drew (by simp) (by simp)
  refine take_load 0 (some 17) cs rfl (by kernel_rfl) (by kernel_rfl) (by kernel_rfl) (fun _ _ _ h => h) rfl rfl 53 _ rfl bx rfl 53 _ (fun w h => F0.chg h HBX.out) Tryd.underlying53 rfl (by rw [HCSs.out]; exact S8Info) hHeld ?_
  try simp only [Act.put, List.setIfInBounds_toArray, List.set_cons_zero, List.set_cons_succ]
  refine take_val (v := ?_) 1 (some 18) rfl (by kernel_rfl) (by kernel_rfl) (by kernel_rfl) (fun _ _ _ h => h) rfl rfl (fun w hSw => ?_) hHeld ?_
  rotate_left
  · (go_simp; try with_reducible rfl)
  try simp only [Act.put, List.setIfInBounds_toArray, List.set_cons_zero, List.set_cons_succ]
  refine wpAnyH_ready (rs := [2, 7]) (by kernel_rfl) (by simp) ?_
  refine AllReadyH.cons (o := _) rfl (fun K hK => ?_) ?_
  ·
    go_simp
    refine (givenBytes_e gb n v f _ HN.out SL GB).mono ?_
    rintro e x2 ⟨o, rfl, BO, GI2, k2⟩
    go_wp2_with fail
    refine hK.out _ _ (hHeld.trans1 k2) (fun hHeld => ?_)
    clear hK K
    try simp only [Act.put, List.setIfInBounds_toArray, List.set_cons_zero, List.set_cons_succ]
    replace SL := SL.chg k2 HO.out
    replace GLc := GLc.chg k2 HG0.out HG1.out
    generalize (World.drew w0).heap.size = bs at *
    obtain ⟨tp, htp⟩ : ∃ t, x2.heap.size = t := ⟨_, rfl⟩
    rw [htp] at GI2
    clear k2 GB htp
    refine wpAnyH_ready (rs := [3, 7]) (by kernel_rfl) (by simp) ?_
    refine AllReadyH.cons (o := _) rfl (fun K hK => ?_) ?_
    ·
      go_simp
      rw [← HCS.out]
      refine (HC.out _ o GLc BO).mono ?_
      rintro e x3 ⟨rfl, k3⟩
      rw [HCX.out]
      go_wp2_with fail
      refine hK.out _ _ (hHeld.trans1 k3.wide) (fun hHeld => ?_)
      clear hK K
      try simp only [Act.put, List.setIfInBounds_toArray, List.set_cons_zero, List.set_cons_succ]
      replace SL := SL.chg k3 (Off.nil _)
      replace GLc := GLc.chg k3 (by simp) (by simp)
      replace GI2 := GI2.chg0 k3
      clear k3 BO
      refine take_val (v := ?_) 4 (some 16) rfl (by kernel_rfl) (by kernel_rfl) (by kernel_rfl) (fun _ _ _ h => h) rfl rfl (fun w hSw => ?_) hHeld ?_
      rotate_left
      · (go_simp; try with_reducible rfl)
      try simp only [Act.put, List.setIfInBounds_toArray, List.set_cons_zero, List.set_cons_succ]
      refine take_val (v := ?_) 5 (some 21) rfl (by kernel_rfl) (by kernel_rfl) (by kernel_rfl) (fun _ _ _ h => h) rfl rfl (fun w hSw => ?_) hHeld ?_
      rotate_left
      · (go_simp; try with_reducible rfl)
      try simp only [Act.put, List.setIfInBounds_toArray, List.set_cons_zero, List.set_cons_succ]
      refine take_val (v := ?_) 6 (some 22) rfl (by kernel_rfl) (by kernel_rfl) (by kernel_rfl) (fun _ _ _ h => h) rfl rfl (fun w hSw => ?_) hHeld ?_
      rotate_left
      · (go_simp; try with_reducible rfl)
      try simp only [Act.put, List.setIfInBounds_toArray, List.set_cons_zero, List.set_cons_succ]
      refine wpAnyH_ready (rs := [7]) (by kernel_rfl) (by simp) ?_
      refine AllReadyH.cons (o := _) rfl (fun K hK => ?_) ?_
      ·
        have axw0 := hHeld.size
        rw [if_pos (by rfl)]
        go_simp
        refine hK.out _ _ (hHeld.alloc _) (fun hHeld => ?_)
        clear hK K
        try simp only [Act.put, List.setIfInBounds_toArray, List.set_cons_zero, List.set_cons_succ]
        have A1 := Blk.new x3 #[.int .u64 0, .int .u64 0, .int .u64 0, .int .u64 0, .int .u64 0, .int .u64 0, .int .u64 0, .int .u64 0] 53
        replace SL := SL.chg ((Chg.refl x3 []).alloc (.cells #[.int .u64 0, .int .u64 0, .int .u64 0, .int .u64 0, .int .u64 0, .int .u64 0, .int .u64 0, .int .u64 0] 53)) (Off.nil _)
        replace GLc := GLc.chg ((Chg.refl x3 []).alloc (.cells #[.int .u64 0, .int .u64 0, .int .u64 0, .int .u64 0, .int .u64 0, .int .u64 0, .int .u64 0, .int .u64 0] 53)) (by simp) (by simp)
        have HAX : ((x3).heap.size < bs ∨ tp ≤ (x3).heap.size) ∧ ¬ (x3).heap.size = gb := ⟨Or.inr GI2.lt.2, fun h => by have := GI2.lt; omega⟩
        replace GI2 := GI2.chg0 ((Chg.refl x3 []).alloc (.cells #[.int .u64 0, .int .u64 0, .int .u64 0, .int .u64 0, .int .u64 0, .int .u64 0, .int .u64 0, .int .u64 0] 53))
        obtain ⟨ax, hax⟩ : ∃ a, (x3).heap.size = a := ⟨_, rfl⟩
        have axw : w0.heap.size ≤ ax := by rw [← hax]; exact axw0
        rw [hax] at A1 HAX
        try rw [hax]
        clear axw0 hax
        generalize World.alloc x3 (.cells #[.int .u64 0, .int .u64 0, .int .u64 0, .int .u64 0, .int .u64 0, .int .u64 0, .int .u64 0, .int .u64 0] 53) = x4 at *
        refine wpAnyH_ready (rs := [8]) (by kernel_rfl) (by simp) ?_
        refine AllReadyH.cons (o := _) rfl (fun K hK => ?_) ?_
        ·
          rw [if_pos (by rfl)]
          refine wp_store_row 53 _ _ rfl ax cX rfl rfl 53 _ A1 (by rw [HCXs.out]; exact S8Info) (by rw [HCXs.out]; rfl) HCX1.out ?_
          refine hK.out _ _ (hHeld.setRowNew axw _) (fun hHeld => ?_)
          clear hK K
          try simp only [Act.put, List.setIfInBounds_toArray, List.set_cons_zero, List.set_cons_succ]
          refine take_val (v := ?_) 9 (some 9) rfl (by kernel_rfl) (by kernel_rfl) (by kernel_rfl) (fun _ _ _ h => h) rfl rfl (fun w hSw => ?_) hHeld ?_
          rotate_left
          · (go_simp; try with_reducible rfl)
          try simp only [Act.put, List.setIfInBounds_toArray, List.set_cons_zero, List.set_cons_succ]
          refine wpAnyH_done (by kernel_rfl) ?_ _
          have B := BK.make A1 SL GLc GI2 HAX F0 HBX.out hHeld K0 HGBW.out (HO2.out ax (Nat.le_trans HW0.out axw)) (Nat.le_trans H2W.out axw)
          clear A1 SL GLc GI2 HAX F0 hHeld K0 axw
          generalize World.setRow x4 ax cX = y at *
          have q0 := B.f0
          go_wp2_with (with_reducible refine load_b q0 53 (.tmp 3) Tryd.underlying53 ?_ ?_ ?_ ?_ ?_ ?_
                       · rfl
                       · rfl
                       · rfl
                       · rfl
                       · (rw [HCSs.out]; exact S8Info))
          clear q0
          rw [← HCS.out]
          refine (HR.out _ v B.sl).mono ?_
          rintro e y1 ⟨rfl, k⟩
          rw [HCX.out]
          replace B := B.chg k
          clear k
          have A2 := Blk.new y1 #[.int .u64 0, .int .u64 0, .int .u64 0, .int .u64 0, .int .u64 0, .int .u64 0, .int .u64 0, .int .u64 0] 53
          have KS : Chg y1 ((y1.alloc (.cells #[.int .u64 0, .int .u64 0, .int .u64 0, .int .u64 0, .int .u64 0, .int .u64 0, .int .u64 0, .int .u64 0] 53)).setRow y1.heap.size cX) [] := ((Chg.refl y1 []).alloc (.cells #[.int .u64 0, .int .u64 0, .int .u64 0, .int .u64 0, .int .u64 0, .int .u64 0, .int .u64 0, .int .u64 0] 53)).setRowNew (Nat.le_refl _) _
          replace B := B.chg KS
          clear KS
          go_wp2_with (with_reducible refine store_b A2 53 (.tmp 10) (.tmp 27) cX ?_ ?_ ?_ ?_ ?_ ?_ HCX1.out ?_
                       · rfl
                       · rfl
                       · rfl
                       · rfl
                       · (rw [HCXs.out]; exact S8Info)
                       · (rw [HCXs.out]; rfl))
          replace A2 := A2.setRow cX
          try (change Calls Tryd.prog _ _ ((y1.alloc (.cells #[.int .u64 0, .int .u64 0, .int .u64 0, .int .u64 0, .int .u64 0, .int .u64 0, .int .u64 0, .int .u64 0] 53)).setRow y1.heap.size cX) _)
          generalize ((y1.alloc (.cells #[.int .u64 0, .int .u64 0, .int .u64 0, .int .u64 0, .int .u64 0, .int .u64 0, .int .u64 0, .int .u64 0] 53)).setRow y1.heap.size cX) = y2 at *
          generalize y1.heap.size = ay at *
          refine (HP.out _).mono ?_
          rintro e y3 ⟨p1, rfl, S1, k⟩
          replace B := B.chg k
          replace A2 := A2.chg k (by simp)
          clear k
          go_wp2_with fail
          refine (HQ.out _).mono ?_
          rintro e y4 ⟨p2, rfl, S2, k⟩
          replace B := B.chg k
          replace A2 := A2.chg k (by simp)
          replace S1 := S1.chg k (Off.nil _)
          clear k
          have q1 := B.a1
          go_wp2_with (first
            | (with_reducible refine load_b q1 53 (.tmp 8) Tryd.underlying53 ?_ ?_ ?_ ?_ ?_ ?_
               · rfl
               · rfl
               · rfl
               · rfl
               · (rw [HCXs.out]; exact S8Info))
            | (with_reducible refine load_b A2 53 (.tmp 10) Tryd.underlying53 ?_ ?_ ?_ ?_ ?_ ?_
               · rfl
               · rfl
               · rfl
               · rfl
               · (rw [HCXs.out]; exact S8Info)))
          clear q1
          refine (num_s E _ hE0 hE1).mono ?_
          rintro e y5 ⟨rfl, rfl⟩
          go_wp2_with fail
          refine (SameBytes_sl p1 p2 pk pF _ S1 S2).mono ?_
          rintro e y6 ⟨rfl, k⟩
          replace B := B.chg k
          clear k S1 S2 A2
          go_wp2_with fail
          refine (num_s PE _ hP0 hP1).mono ?_
          rintro e y7 ⟨rfl, rfl⟩
          go_wp2_with fail
          refine (Constants_s _ B.gl).mono ?_
          rintro e y8 ⟨rfl, k⟩
          rw [HCK.out]
          replace B := B.chg k
          clear k
          go_wp2_with fail
          refine (Constants_r _).mono ?_
          rintro e y9 ⟨rfl, k⟩
          rw [HCK.out]
          replace B := B.chg k
          clear k
          go_wp2_with fail
          refine (B.gi.intact).mono ?_
          rintro e y10 ⟨rfl, k⟩
          replace B := B.chg k
          clear k
          go_wp2_with fail
          refine (alive_s _ B.gl).mono ?_
          rintro e y11 ⟨rfl, k⟩
          replace B := B.chg k
          clear k
          go_wp2_with fail
          go_ret
          exact ⟨rfl, B.cc⟩
        exact AllReadyH.nil
      exact AllReadyH.nil
    refine AllReadyH.cons (o := _) rfl (fun K hK => ?_) ?_
    ·
      have axw0 := hHeld.size
      rw [if_pos (by rfl)]
      go_simp
      refine hK.out _ _ (hHeld.alloc _) (fun hHeld => ?_)
      clear hK K
      try simp only [Act.put, List.setIfInBounds_toArray, List.set_cons_zero, List.set_cons_succ]
      have A1 := Blk.new x2 #[.int .u64 0, .int .u64 0, .int .u64 0, .int .u64 0, .int .u64 0, .int .u64 0, .int .u64 0, .int .u64 0] 53
      replace SL := SL.chg ((Chg.refl x2 []).alloc (.cells #[.int .u64 0, .int .u64 0, .int .u64 0, .int .u64 0, .int .u64 0, .int .u64 0, .int .u64 0, .int .u64 0] 53)) (Off.nil _)
      replace GLc := GLc.chg ((Chg.refl x2 []).alloc (.cells #[.int .u64 0, .int .u64 0, .int .u64 0, .int .u64 0, .int .u64 0, .int .u64 0, .int .u64 0, .int .u64 0] 53)) (by simp) (by simp)
      have HAX : ((x2).heap.size < bs ∨ tp ≤ (x2).heap.size) ∧ ¬ (x2).heap.size = gb := ⟨Or.inr GI2.lt.2, fun h => by have := GI2.lt; omega⟩
      replace GI2 := GI2.chg0 ((Chg.refl x2 []).alloc (.cells #[.int .u64 0, .int .u64 0, .int .u64 0, .int .u64 0, .int .u64 0, .int .u64 0, .int .u64 0, .int .u64 0] 53))
      replace BO := BO.chg ((Chg.refl x2 []).alloc (.cells #[.int .u64 0, .int .u64 0, .int .u64 0, .int .u64 0, .int .u64 0, .int .u64 0, .int .u64 0, .int .u64 0] 53)) (by simp)
      obtain ⟨ax, hax⟩ : ∃ a, (x2).heap.size = a := ⟨_, rfl⟩
      have axw : w0.heap.size ≤ ax := by rw [← hax]; exact axw0
      rw [hax] at A1 HAX
      try rw [hax]
      clear axw0 hax
      generalize World.alloc x2 (.cells #[.int .u64 0, .int .u64 0, .int .u64 0, .int .u64 0, .int .u64 0, .int .u64 0, .int .u64 0, .int .u64 0] 53) = x2a at *
      refine wpAnyH_ready (rs := [3]) (by kernel_rfl) (by simp) ?_
      refine AllReadyH.cons (o := _) rfl (fun K hK => ?_) ?_
      ·
        go_simp
        rw [← HCS.out]
        refine (HC.out _ o GLc BO).mono ?_
        rintro e x4 ⟨rfl, k3⟩
        rw [HCX.out]
        go_wp2_with fail
        refine hK.out _ _ (hHeld.trans1 k3.wide) (fun hHeld => ?_)
        clear hK K
        try simp only [Act.put, List.setIfInBounds_toArray, List.set_cons_zero, List.set_cons_succ]
        replace SL := SL.chg k3 (Off.nil _)
        replace GLc := GLc.chg k3 (by simp) (by simp)
        replace GI2 := GI2.chg0 k3
        replace A1 := A1.chg k3 (by simp)
        clear k3 BO
        refine take_val (v := ?_) 4 (some 16) rfl (by kernel_rfl) (by kernel_rfl) (by kernel_rfl) (fun _ _ _ h => h) rfl rfl (fun w hSw => ?_) hHeld ?_
        rotate_left
        · (go_simp; try with_reducible rfl)
        try simp only [Act.put, List.setIfInBounds_toArray, List.set_cons_zero, List.set_cons_succ]
        refine take_val (v := ?_) 5 (some 21) rfl (by kernel_rfl) (by kernel_rfl) (by kernel_rfl) (fun _ _ _ h => h) rfl rfl (fun w hSw => ?_) hHeld ?_
        rotate_left
        · (go_simp; try with_reducible rfl)
        try simp only [Act.put, List.setIfInBounds_toArray, List.set_cons_zero, List.set_cons_succ]
        refine take_val (v := ?_) 6 (some 22) rfl (by kernel_rfl) (by kernel_rfl) (by kernel_rfl) (fun _ _ _ h => h) rfl rfl (fun w hSw => ?_) hHeld ?_
        rotate_left
        · (go_simp; try with_reducible rfl)
        try simp only [Act.put, List.setIfInBounds_toArray, List.set_cons_zero, List.set_cons_succ]
        refine wpAnyH_ready (rs := [8]) (by kernel_rfl) (by simp) ?_
        refine AllReadyH.cons (o := _) rfl (fun K hK => ?_) ?_
        ·
          rw [if_pos (by rfl)]
          refine wp_store_row 53 _ _ rfl ax cX rfl rfl 53 _ A1 (by rw [HCXs.out]; exact S8Info) (by rw [HCXs.out]; rfl) HCX1.out ?_
          refine hK.out _ _ (hHeld.setRowNew axw _) (fun hHeld => ?_)
          clear hK K
          try simp only [Act.put, List.setIfInBounds_toArray, List.set_cons_zero, List.set_cons_succ]
          refine take_val (v := ?_) 9 (some 9) rfl (by kernel_rfl) (by kernel_rfl) (by kernel_rfl) (fun _ _ _ h => h) rfl rfl (fun w hSw => ?_) hHeld ?_
          rotate_left
          · (go_simp; try with_reducible rfl)
          try simp only [Act.put, List.setIfInBounds_toArray, List.set_cons_zero, List.set_cons_succ]
          refine wpAnyH_done (by kernel_rfl) ?_ _
          have B := BK.make A1 SL GLc GI2 HAX F0 HBX.out hHeld K0 HGBW.out (HO2.out ax (Nat.le_trans HW0.out axw)) (Nat.le_trans H2W.out axw)
          clear A1 SL GLc GI2 HAX F0 hHeld K0 axw
          generalize World.setRow x4 ax cX = y at *
          have q0 := B.f0
          go_wp2_with (with_reducible refine load_b q0 53 (.tmp 3) Tryd.underlying53 ?_ ?_ ?_ ?_ ?_ ?_
                       · rfl
                       · rfl
                       · rfl
                       · rfl
                       · (rw [HCSs.out]; exact S8Info))
          clear q0
          rw [← HCS.out]
          refine (HR.out _ v B.sl).mono ?_
          rintro e y1 ⟨rfl, k⟩
          rw [HCX.out]
          replace B := B.chg k
          clear k
          have A2 := Blk.new y1 #[.int .u64 0, .int .u64 0, .int .u64 0, .int .u64 0, .int .u64 0, .int .u64 0, .int .u64 0, .int .u64 0] 53
          have KS : Chg y1 ((y1.alloc (.cells #[.int .u64 0, .int .u64 0, .int .u64 0, .int .u64 0, .int .u64 0, .int .u64 0, .int .u64 0, .int .u64 0] 53)).setRow y1.heap.size cX) [] := ((Chg.refl y1 []).alloc (.cells #[.int .u64 0, .int .u64 0, .int .u64 0, .int .u64 0, .int .u64 0, .int .u64 0, .int .u64 0, .int .u64 0] 53)).setRowNew (Nat.le_refl _) _
          replace B := B.chg KS
          clear KS
          go_wp2_with (with_reducible refine store_b A2 53 (.tmp 10) (.tmp 27) cX ?_ ?_ ?_ ?_ ?_ ?_ HCX1.out ?_
                       · rfl
                       · rfl
                       · rfl
                       · rfl
                       · (rw [HCXs.out]; exact S8Info)
                       · (rw [HCXs.out]; rfl))
          replace A2 := A2.setRow cX
          try (change Calls Tryd.prog _ _ ((y1.alloc (.cells #[.int .u64 0, .int .u64 0, .int .u64 0, .int .u64 0, .int .u64 0, .int .u64 0, .int .u64 0, .int .u64 0] 53)).setRow y1.heap.size cX) _)
          generalize ((y1.alloc (.cells #[.int .u64 0, .int .u64 0, .int .u64 0, .int .u64 0, .int .u64 0, .int .u64 0, .int .u64 0, .int .u64 0] 53)).setRow y1.heap.size cX) = y2 at *
          generalize y1.heap.size = ay at *
          refine (HP.out _).mono ?_
          rintro e y3 ⟨p1, rfl, S1, k⟩
          replace B := B.chg k
          replace A2 := A2.chg k (by simp)
          clear k
          go_wp2_with fail
          refine (HQ.out _).mono ?_
          rintro e y4 ⟨p2, rfl, S2, k⟩
          replace B := B.chg k
          replace A2 := A2.chg k (by simp)
          replace S1 := S1.chg k (Off.nil _)
          clear k
          have q1 := B.a1
          go_wp2_with (first
            | (with_reducible refine load_b q1 53 (.tmp 8) Tryd.underlying53 ?_ ?_ ?_ ?_ ?_ ?_
               · rfl
               · rfl
               · rfl
               · rfl
               · (rw [HCXs.out]; exact S8Info))
            | (with_reducible refine load_b A2 53 (.tmp 10) Tryd.underlying53 ?_ ?_ ?_ ?_ ?_ ?_
               · rfl
               · rfl
               · rfl
               · rfl
               · (rw [HCXs.out]; exact S8Info)))
          clear q1
          refine (num_s E _ hE0 hE1).mono ?_
          rintro e y5 ⟨rfl, rfl⟩
          go_wp2_with fail
          refine (SameBytes_sl p1 p2 pk pF _ S1 S2).mono ?_
          rintro e y6 ⟨rfl, k⟩
          replace B := B.chg k
          clear k S1 S2 A2
          go_wp2_with fail
          refine (num_s PE _ hP0 hP1).mono ?_
          rintro e y7 ⟨rfl, rfl⟩
          go_wp2_with fail
          refine (Constants_s _ B.gl).mono ?_
          rintro e y8 ⟨rfl, k⟩
          rw [HCK.out]
          replace B := B.chg k
          clear k
          go_wp2_with fail
          refine (Constants_r _).mono ?_
          rintro e y9 ⟨rfl, k⟩
          rw [HCK.out]
          replace B := B.chg k
          clear k
          go_wp2_with fail
          refine (B.gi.intact).mono ?_
          rintro e y10 ⟨rfl, k⟩
          replace B := B.chg k
          clear k
          go_wp2_with fail
          refine (alive_s _ B.gl).mono ?_
          rintro e y11 ⟨rfl, k⟩
          replace B := B.chg k
          clear k
          go_wp2_with fail
          go_ret
          exact ⟨rfl, B.cc⟩
        exact AllReadyH.nil
      exact AllReadyH.nil
    exact AllReadyH.nil
  refine AllReadyH.cons (o := _) rfl (fun K hK => ?_) ?_
  ·
    have axw0 := hHeld.size
    rw [if_pos (by rfl)]
    go_simp
    refine hK.out _ _ (hHeld.alloc _) (fun hHeld => ?_)
    clear hK K
    try simp only [Act.put, List.setIfInBounds_toArray, List.set_cons_zero, List.set_cons_succ]
    have A1 : Blk (World.drew (World.alloc w0 (.cells #[.int .u64 0, .int .u64 0, .int .u64 0, .int .u64 0, .int .u64 0, .int .u64 0, .int .u64 0, .int .u64 0] 53))) w0.heap.size #[.int .u64 0, .int .u64 0, .int .u64 0, .int .u64 0, .int .u64 0, .int .u64 0, .int .u64 0, .int .u64 0] 53 := (Blk.new w0 #[.int .u64 0, .int .u64 0, .int .u64 0, .int .u64 0, .int .u64 0, .int .u64 0, .int .u64 0, .int .u64 0] 53).drew
    replace SL := SL.chg (((Chg.refl w0 []).alloc (.cells #[.int .u64 0, .int .u64 0, .int .u64 0, .int .u64 0, .int .u64 0, .int .u64 0, .int .u64 0, .int .u64 0] 53)).drew.drewL) (Off.nil _)
    replace GLc := GLc.chg (((Chg.refl w0 []).alloc (.cells #[.int .u64 0, .int .u64 0, .int .u64 0, .int .u64 0, .int .u64 0, .int .u64 0, .int .u64 0, .int .u64 0] 53)).drew.drewL) (by simp) (by simp)
    have axg : ¬ w0.heap.size = gb := fun h => by have h2 : gb < w0.heap.size := GB.lt; omega
    replace GB : Blk (World.drew (World.alloc w0 (.cells #[.int .u64 0, .int .u64 0, .int .u64 0, .int .u64 0, .int .u64 0, .int .u64 0, .int .u64 0, .int .u64 0] 53))) gb (gC (.slice none 0 0) (.slice none 0 0)) 39 := GB.chg (((Chg.refl w0 []).alloc (.cells #[.int .u64 0, .int .u64 0, .int .u64 0, .int .u64 0, .int .u64 0, .int .u64 0, .int .u64 0, .int .u64 0] 53)).drew.drewL) (by simp)
    obtain ⟨ax, hax⟩ : ∃ a, w0.heap.size = a := ⟨_, rfl⟩
    have axw : w0.heap.size ≤ ax := Nat.le_of_eq hax
    rw [hax] at A1 axg
    try rw [hax]
    clear axw0
    generalize World.drew (World.alloc w0 (.cells #[.int .u64 0, .int .u64 0, .int .u64 0, .int .u64 0, .int .u64 0, .int .u64 0, .int .u64 0, .int .u64 0] 53)) = w0a at *
    refine wpAnyH_ready (rs := [2]) (by kernel_rfl) (by simp) ?_
    refine AllReadyH.cons (o := _) rfl (fun K hK => ?_) ?_
    ·
      go_simp
      refine (givenBytes_e gb n v f _ HN.out SL GB).mono ?_
      rintro e x2 ⟨o, rfl, BO, GI2, k2⟩
      go_wp2_with fail
      refine hK.out _ _ (hHeld.trans1 k2) (fun hHeld => ?_)
      clear hK K
      try simp only [Act.put, List.setIfInBounds_toArray, List.set_cons_zero, List.set_cons_succ]
      replace SL := SL.chg k2 HO.out
      replace GLc := GLc.chg k2 HG0.out HG1.out
      have HAX : (ax < w0a.heap.size ∨ x2.heap.size ≤ ax) ∧ ¬ ax = gb := ⟨Or.inl A1.lt, axg⟩
      replace A1 := A1.chg k2 (by simpa using axg)
      generalize w0a.heap.size = bs at *
      obtain ⟨tp, htp⟩ : ∃ t, x2.heap.size = t := ⟨_, rfl⟩
      rw [htp] at GI2
      rw [htp] at HAX
      clear k2 GB htp
      refine wpAnyH_ready (rs := [3]) (by kernel_rfl) (by simp) ?_
      refine AllReadyH.cons (o := _) rfl (fun K hK => ?_) ?_
      ·
        go_simp
        rw [← HCS.out]
        refine (HC.out _ o GLc BO).mono ?_
        rintro e x4 ⟨rfl, k3⟩
        rw [HCX.out]
        go_wp2_with fail
        refine hK.out _ _ (hHeld.trans1 k3.wide) (fun hHeld => ?_)
        clear hK K
        try simp only [Act.put, List.setIfInBounds_toArray, List.set_cons_zero, List.set_cons_succ]
        replace SL := SL.chg k3 (Off.nil _)
        replace GLc := GLc.chg k3 (by simp) (by simp)
        replace GI2 := GI2.chg0 k3
        replace A1 := A1.chg k3 (by simp)
        clear k3 BO
        refine take_val (v := ?_) 4 (some 16) rfl (by kernel_rfl) (by kernel_rfl) (by kernel_rfl) (fun _ _ _ h => h) rfl rfl (fun w hSw => ?_) hHeld ?_
        rotate_left
        · (go_simp; try with_reducible rfl)
        try simp only [Act.put, List.setIfInBounds_toArray, List.set_cons_zero, List.set_cons_succ]
        refine take_val (v := ?_) 5 (some 21) rfl (by kernel_rfl) (by kernel_rfl) (by kernel_rfl) (fun _ _ _ h => h) rfl rfl (fun w hSw => ?_) hHeld ?_
        rotate_left
        · (go_simp; try with_reducible rfl)
        try simp only [Act.put, List.setIfInBounds_toArray, List.set_cons_zero, List.set_cons_succ]
        refine take_val (v := ?_) 6 (some 22) rfl (by kernel_rfl) (by kernel_rfl) (by kernel_rfl) (fun _ _ _ h => h) rfl rfl (fun w hSw => ?_) hHeld ?_
        rotate_left
        · (go_simp; try with_reducible rfl)
        try simp only [Act.put, List.setIfInBounds_toArray, List.set_cons_zero, List.set_cons_succ]
        refine wpAnyH_ready (rs := [8]) (by kernel_rfl) (by simp) ?_
        refine AllReadyH.cons (o := _) rfl (fun K hK => ?_) ?_
        ·
          rw [if_pos (by rfl)]
          refine wp_store_row 53 _ _ rfl ax cX rfl rfl 53 _ A1 (by rw [HCXs.out]; exact S8Info) (by rw [HCXs.out]; rfl) HCX1.out ?_
          refine hK.out _ _ (hHeld.setRowNew axw _) (fun hHeld => ?_)
          clear hK K
          try simp only [Act.put, List.setIfInBounds_toArray, List.set_cons_zero, List.set_cons_succ]
          refine take_val (v := ?_) 9 (some 9) rfl (by kernel_rfl) (by kernel_rfl) (by kernel_rfl) (fun _ _ _ h => h) rfl rfl (fun w hSw => ?_) hHeld ?_
          rotate_left
          · (go_simp; try with_reducible rfl)
          try simp only [Act.put, List.setIfInBounds_toArray, List.set_cons_zero, List.set_cons_succ]
          refine wpAnyH_done (by kernel_rfl) ?_ _
          have B := BK.make A1 SL GLc GI2 HAX F0 HBX.out hHeld K0 HGBW.out (HO2.out ax (Nat.le_trans HW0.out axw)) (Nat.le_trans H2W.out axw)
          clear A1 SL GLc GI2 HAX F0 hHeld K0 axw
          generalize World.setRow x4 ax cX = y at *
          have q0 := B.f0
          go_wp2_with (with_reducible refine load_b q0 53 (.tmp 3) Tryd.underlying53 ?_ ?_ ?_ ?_ ?_ ?_
                       · rfl
                       · rfl
                       · rfl
                       · rfl
                       · (rw [HCSs.out]; exact S8Info))
          clear q0
          rw [← HCS.out]
          refine (HR.out _ v B.sl).mono ?_
          rintro e y1 ⟨rfl, k⟩
          rw [HCX.out]
          replace B := B.chg k
          clear k
          have A2 := Blk.new y1 #[.int .u64 0, .int .u64 0, .int .u64 0, .int .u64 0, .int .u64 0, .int .u64 0, .int .u64 0, .int .u64 0] 53
          have KS : Chg y1 ((y1.alloc (.cells #[.int .u64 0, .int .u64 0, .int .u64 0, .int .u64 0, .int .u64 0, .int .u64 0, .int .u64 0, .int .u64 0] 53)).setRow y1.heap.size cX) [] := ((Chg.refl y1 []).alloc (.cells #[.int .u64 0, .int .u64 0, .int .u64 0, .int .u64 0, .int .u64 0, .int .u64 0, .int .u64 0, .int .u64 0] 53)).setRowNew (Nat.le_refl _) _
          replace B := B.chg KS
          clear KS
          go_wp2_with (with_reducible refine store_b A2 53 (.tmp 10) (.tmp 27) cX ?_ ?_ ?_ ?_ ?_ ?_ HCX1.out ?_
                       · rfl
                       · rfl
                       · rfl
                       · rfl
                       · (rw [HCXs.out]; exact S8Info)
                       · (rw [HCXs.out]; rfl))
          replace A2 := A2.setRow cX
          try (change Calls Tryd.prog _ _ ((y1.alloc (.cells #[.int .u64 0, .int .u64 0, .int .u64 0, .int .u64 0, .int .u64 0, .int .u64 0, .int .u64 0, .int .u64 0] 53)).setRow y1.heap.size cX) _)
          generalize ((y1.alloc (.cells #[.int .u64 0, .int .u64 0, .int .u64 0, .int .u64 0, .int .u64 0, .int .u64 0, .int .u64 0, .int .u64 0] 53)).setRow y1.heap.size cX) = y2 at *
          generalize y1.heap.size = ay at *
          refine (HP.out _).mono ?_
          rintro e y3 ⟨p1, rfl, S1, k⟩
          replace B := B.chg k
          replace A2 := A2.chg k (by simp)
          clear k
          go_wp2_with fail
          refine (HQ.out _).mono ?_
          rintro e y4 ⟨p2, rfl, S2, k⟩
          replace B := B.chg k
          replace A2 := A2.chg k (by simp)
          replace S1 := S1.chg k (Off.nil _)
          clear k
          have q1 := B.a1
          go_wp2_with (first
            | (with_reducible refine load_b q1 53 (.tmp 8) Tryd.underlying53 ?_ ?_ ?_ ?_ ?_ ?_
               · rfl
               · rfl
               · rfl
               · rfl
               · (rw [HCXs.out]; exact S8Info))
            | (with_reducible refine load_b A2 53 (.tmp 10) Tryd.underlying53 ?_ ?_ ?_ ?_ ?_ ?_
               · rfl
               · rfl
               · rfl
               · rfl
               · (rw [HCXs.out]; exact S8Info)))
          clear q1
          refine (num_s E _ hE0 hE1).mono ?_
          rintro e y5 ⟨rfl, rfl⟩
          go_wp2_with fail
          refine (SameBytes_sl p1 p2 pk pF _ S1 S2).mono ?_
          rintro e y6 ⟨rfl, k⟩
          replace B := B.chg k
          clear k S1 S2 A2
          go_wp2_with fail
          refine (num_s PE _ hP0 hP1).mono ?_
          rintro e y7 ⟨rfl, rfl⟩
          go_wp2_with fail
          refine (Constants_s _ B.gl).mono ?_
          rintro e y8 ⟨rfl, k⟩
          rw [HCK.out]
          replace B := B.chg k
          clear k
          go_wp2_with fail
          refine (Constants_r _).mono ?_
          rintro e y9 ⟨rfl, k⟩
          rw [HCK.out]
          replace B := B.chg k
          clear k
          go_wp2_with fail
          refine (B.gi.intact).mono ?_
          rintro e y10 ⟨rfl, k⟩
          replace B := B.chg k
          clear k
          go_wp2_with fail
          refine (alive_s _ B.gl).mono ?_
          rintro e y11 ⟨rfl, k⟩
          replace B := B.chg k
          clear k
          go_wp2_with fail
          go_ret
          exact ⟨rfl, B.cc⟩
        exact AllReadyH.nil
      exact AllReadyH.nil
    exact AllReadyH.nil
  exact AllReadyH.nil
end Go.Proofs.YtjcgjhncdaplcaaDoor
