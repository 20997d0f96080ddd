/- For every []byte b, every 32-byte value a and every uint64 n that are together of bulk at most 1048576, rimelaw01.FieldBytes returns true and its arguments read afterwards as they read before. Its condition: that bound. -/
import Derived.Test.YtialljmkkichiaaFNc
import Derived.Test.YtialljmkkichiaaFNa
import Derived.Test.YtialljmkkichiaaOpen
import Derived.Test.YtialljmkkichiaaByt
import Derived.Deep.Slices
import Derived.Below
import Derived.WalkKit
import Derived.ProofKit
import Derived.OpenShut
import Derived.JoinedCond
import Derived.Test.YtialljmkkichiaaRows
set_option linter.unusedVariables false
set_option linter.unusedSimpArgs false
set_option linter.unnecessarySimpa false
namespace Go.Proofs.Ytialljmkkichiaa
section
open Go.RowKit N

/-- A Given that has nothing. -/
def gNil : Nat → Value := fun _ => .slice none 0 0
theorem zGiven : #[Value.slice none 0 0, .slice none 0 0, .slice none 0 0, .slice none 0 0, .slice none 0 0, .slice none 0 0, .slice none 0 0, .slice none 0 0, .slice none 0 0, .slice none 0 0, .slice none 0 0, .slice none 0 0, .slice none 0 0, .slice none 0 0, .slice none 0 0, .slice none 0 0, .slice none 0 0, .slice none 0 0, .slice none 0 0, .slice none 0 0, .slice none 0 0, .slice none 0 0, .slice none 0 0, .slice none 0 0, .slice none 0 0, .slice none 0 0, .slice none 0 0, .slice none 0 0, .slice none 0 0, .slice none 0 0] = gvC gNil := by kernel_rfl
theorem Gv.none {w : World} {gb base : Nat} {p : Nat} {TG TE T : TypeId} {s : Nat} (h : Blk w gb (gvC gNil) TG) (N : Nat → Nat) (F : Nat → Nat → List Value) : Gv w gb base gNil p TG TE T s 0 N F :=
  ⟨h, [], [], World.ownsRow_nil _ _ _ _, World.ownsRow_nil _ _ _ _, fun x hx => by simp [ob, gNil, Value.ownBlock] at hx, fun j hj => by omega⟩
theorem Gv.ge {w : World} {gb base : Nat} {G : Nat → Value} {p : Nat} {TG TE T : TypeId} {s Kn : Nat} {N : Nat → Nat} {F : Nat → Nat → List Value} (h : Gv w gb base G p TG TE T s Kn N F) (hb : base ≤ gb) : ∀ x, x ∈ gch gb G p → base ≤ x := by
  obtain ⟨vs, us, l1, l2, _⟩ := h.lists
  intro x hx
  rcases List.mem_cons.1 hx with e | hx
  · omega
  · rcases List.mem_append.1 hx with hx | hx
    · exact (l1.lt x (by unfold ob at hx; simpa using hx)).1
    · exact (l2.lt x (by unfold ob at hx; simpa using hx)).1
theorem gvq_bs {w : World} {o n : Nat} {f : Nat → Nat} (h : Blk w o (rL 1 (n + 3) (bR (gvf f n))).toArray 5) (hf : ∀ i, i < n → f i < 256) : Bs w o 0 n f := by
  rw [← yC_bR] at h
  refine ⟨h.lt, hf, fun i hi => ?_⟩
  rw [Nat.zero_add, h.cell, yC_get _ _ _ (by omega)]
  unfold gvf
  rw [if_pos hi]
theorem num_any (e : Int) (w : World) : Calls Try.prog 12 #[.int .i64 e] w fun x w' => x = .returned (.int .i64 e) ∧ w' = w := by
  go_enter Try.func12, Try.ntmps12
  go_wp2
  go_ret
  exact ⟨rfl, rfl⟩
set_option maxHeartbeats 16000000 in
set_option maxRecDepth 100000 in
theorem fbytes_walk (v : Value) (n : Nat) (f : Nat → Nat) (hn : n ≤ 1048576) (a : Int) (ra : R256 a) (q : Nat) (hq : q < 18446744073709551616) (w : World) (hS : Sl w v n f) :
    Calls Try.prog 3 #[v, fe a, .int .u64 (q : Int)] w fun e w' => e = .returned (.bool true) ∧ Chg w w' [] := by
  have hge := feGuard
  have hf := sl_lt hS
  obtain ⟨X, E, hd1, hd2⟩ := decode_both n f hf hn
  obtain ⟨Zv, hr1, hr2⟩ := reduce_both n f hn
  obtain ⟨t, hc1, hc2⟩ := canon_both a ra
  have HDF : Hid (∀ w o, Bs w o 0 n f → Calls Try.prog 9 #[.slice (some ⟨o, 0, none⟩) n (n + 3)] w fun e w' => e = .returned (.tuple #[fe X, .int .i64 E]) ∧ Chg w w' []) := hd1
  have HDR : Hid (∀ w v, Sl w v n f → Calls Try.prog 11 #[v] w fun e w' => e = .returned (.tuple #[fe X, .int .i64 E]) ∧ Chg w w' []) := hd2
  have HRF : Hid (∀ w o, Bs w o 0 n f → Calls Try.prog 13 #[.slice (some ⟨o, 0, none⟩) n (n + 3)] w fun e w' => e = .returned (fe Zv) ∧ Chg w w' []) := hr1
  have HRR : Hid (∀ w v, Sl w v n f → Calls Try.prog 14 #[v] w fun e w' => e = .returned (fe Zv) ∧ Chg w w' []) := hr2
  have HCF : Hid (∀ w, Calls Try.prog 15 #[fe a] w fun e w' => e = .returned (.bool t) ∧ Chg w w' []) := hc1
  have HCR : Hid (∀ w, Calls Try.prog 16 #[fe a] w fun e w' => e = .returned (.bool t) ∧ Chg w w' []) := hc2
  have HN : Hid (n ≤ 1048576) := hn
  have HQ : Hid (q < 18446744073709551616) := hq
  have HWQ : Hid (Wo (q : Int)) := by show Wo (q : Int); exact ⟨by omega, by omega⟩
  have HFB : Hid (∀ i, i < n → f i < 256) := hf
  have B0 : Blk ((w.alloc (.cells (feC a) 24)).alloc (.cells (gvC gNil) 42)) (w.heap.size + 1) (gvC gNil) 42 := by have h := Blk.new (w.alloc (.cells (feC a) 24)) (gvC gNil) 42; simpa using h
  have F0 : Blk ((w.alloc (.cells (feC a) 24)).alloc (.cells (gvC gNil) 42)) w.heap.size (feC a) 24 := (Blk.new w (feC a) 24).alloc _
  have CC : Chg w ((w.alloc (.cells (feC a) 24)).alloc (.cells (gvC gNil) 42)) [] := ((Chg.refl w []).alloc _).alloc _
  have G0 : Gv ((w.alloc (.cells (feC a) 24)).alloc (.cells (gvC gNil) 42)) (w.heap.size + 1) w.heap.size gNil 0 42 22 5 1 0 (fun _ => 0) (fun _ _ => []) := Gv.none B0 _ _
  have SL := hS.chg CC (Off.nil _)
  have BB : w.heap.size ≤ (((w.alloc (.cells (feC a) 24)).alloc (.cells (gvC gNil) 42))).heap.size := CC.size
  have HNEW : Hid (∀ l : List Nat, (∀ i ∈ l, w.heap.size ≤ i) → Off v l) := fun l hl => hS.new l hl
  have HGW : Hid (w.heap.size ≤ w.heap.size + 1) := by show w.heap.size ≤ w.heap.size + 1; omega
  clear hf hd1 hd2 hr1 hr2 hc1 hc2 hn hq B0 hS
  go_enter Try.func3, Try.ntmps3
  go_wp2_with fail
  rw [zGiven]
  generalize ((w.alloc (.cells (feC a) 24)).alloc (.cells (gvC gNil) 42)) = w0 at *
  obtain ⟨bx, hbx⟩ : ∃ b, w.heap.size = b := ⟨_, rfl⟩
  have HBX : Hid (w.heap.size = bx) := hbx
  rw [hbx] at F0 G0 BB HGW
  rw [hbx]
  clear hbx
  obtain ⟨gb, hgb⟩ : ∃ b, bx + 1 = b := ⟨_, rfl⟩
  rw [hgb] at G0 HGW
  rw [hgb]
  clear hgb
  refine (GivenBytes_k gb n bx 0 v f gNil _ _ w0 (by have := HN.out; omega) (by decide) BB SL G0).mono ?_
  rintro e w1 ⟨r, rfl, o, la, lb, rfl, ho, c1, bo, G1⟩
  have g0 : ∀ x, x ∈ gch gb gNil 0 → w.heap.size ≤ x := fun x hx => by have := G0.ge HGW.out x hx; have := HBX.out; omega
  have XB := gvq_bs bo HFB.out
  replace SL := SL.chg c1 (HNEW.out _ g0)
  replace F0 := F0.chg c1 (G0.off F0 (by decide) (by decide))
  replace CC := CC.trans c1 (fun x hx => Or.inr (g0 x hx))
  replace BB := Nat.le_trans BB c1.size
  obtain ⟨Ga, hGa⟩ : ∃ G, upV (upV gNil 0 la) (0 + 1) lb = G := ⟨_, rfl⟩
  have HGa : Hid (∀ q, q < 30 → ¬ q = 0 → ¬ q = 1 → Ga q = .slice none 0 0) := fun q _ h1 h2 => by rw [← hGa, upV_other _ _ _ _ h2, upV_other _ _ _ _ h1]; rfl
  rw [hGa] at G1
  clear c1 G0 bo ho hGa g0
  go_wp2_with fail
  refine (HDF.out w1 o XB).mono ?_
  rintro e w2 ⟨rfl, k⟩
  replace SL := SL.chg k (Off.nil _)
  replace G1 := G1.chg k
  replace F0 := F0.chg k (by simp)
  replace CC := CC.trans1 k
  replace BB := Nat.le_trans BB k.size
  clear k XB
  have BX := Blk.new w2 z32 24
  have KS : Chg w2 ((w2.alloc (.cells z32 24)).setRow w2.heap.size (feC X)) [] := ((Chg.refl w2 []).alloc (.cells z32 24)).setRowNew (Nat.le_refl _) _
  replace SL := SL.chg KS (Off.nil _)
  replace G1 := G1.chg KS
  replace F0 := F0.chg KS (by simp)
  replace CC := CC.trans1 KS
  replace BB := Nat.le_trans BB KS.size
  clear KS
  go_wp2_with (refine wpList_store_row rfl 24 _ _ rfl w2.heap.size (feC X) rfl rfl 24 _ BX feInfo rfl (feC_one _) ?_)
  replace BX := BX.setRow (feC X)
  try (change Calls Try.prog _ _ ((w2.alloc (.cells z32 24)).setRow w2.heap.size (feC X)) _)
  generalize ((w2.alloc (.cells z32 24)).setRow w2.heap.size (feC X)) = w3 at *
  generalize w2.heap.size = gx at *
  refine (HDR.out w3 v SL).mono ?_
  rintro e w4 ⟨rfl, k⟩
  replace SL := SL.chg k (Off.nil _)
  replace G1 := G1.chg k
  replace F0 := F0.chg k (by simp)
  replace BX := BX.chg k (by simp)
  replace CC := CC.trans1 k
  replace BB := Nat.le_trans BB k.size
  clear k
  have BY := Blk.new w4 z32 24
  have KS : Chg w4 ((w4.alloc (.cells z32 24)).setRow w4.heap.size (feC X)) [] := ((Chg.refl w4 []).alloc (.cells z32 24)).setRowNew (Nat.le_refl _) _
  replace SL := SL.chg KS (Off.nil _)
  replace G1 := G1.chg KS
  replace F0 := F0.chg KS (by simp)
  replace BX := BX.chg KS (by simp)
  replace CC := CC.trans1 KS
  replace BB := Nat.le_trans BB KS.size
  clear KS
  go_wp2_with (refine wpList_store_row rfl 24 _ _ rfl w4.heap.size (feC X) rfl rfl 24 _ BY feInfo rfl (feC_one _) ?_)
  replace BY := BY.setRow (feC X)
  change Code.wp _ _ _ _ ((w4.alloc (.cells z32 24)).setRow w4.heap.size (feC X))
  generalize ((w4.alloc (.cells z32 24)).setRow w4.heap.size (feC X)) = v4 at *
  generalize w4.heap.size = gy at *
  have HOX : Hid (¬ gx ∈ gch gb Ga 0) := G1.off BX (by decide) (by decide)
  have HOY : Hid (¬ gy ∈ gch gb Ga 0) := G1.off BY (by decide) (by decide)
  have HOF : Hid (¬ bx ∈ gch gb Ga 0) := G1.off F0 (by decide) (by decide)
  have HGE : Hid (∀ x, x ∈ gch gb Ga 0 → w.heap.size ≤ x) := fun x hx => by have := G1.ge HGW.out x hx; have := HBX.out; omega
  have HOV : Hid (Off v (gch gb Ga 0)) := HNEW.out _ HGE.out
  refine wp_region_held_drew (S := fun w' => Chg v4 w' (gch gb Ga 0)) (by kernel_rfl) ((Chg.refl v4 _).drew) (fun hHeld => ?_)
  replace SL := SL.chg (Chg.refl v4 []).drew (Off.nil _)
  replace G1 := G1.chg (Chg.refl v4 []).drew
  replace BB : bx ≤ (World.drew v4).heap.size := BB
  refine take_load 0 (some 23) (feC X) rfl (by kernel_rfl) (by kernel_rfl) (by kernel_rfl) (fun _ _ _ h => h) rfl rfl 24 _ rfl gx rfl 24 _ (fun w h => BX.chg h HOX.out) Try.underlying24 rfl (by first | exact feInfo | kernel_rfl) hHeld ?_
  try simp only [Act.put, List.setIfInBounds_toArray, List.set_cons_zero, List.set_cons_succ]
  refine take_load 1 (some 24) (feC X) rfl (by kernel_rfl) (by kernel_rfl) (by kernel_rfl) (fun _ _ _ h => h) rfl rfl 24 _ rfl gy rfl 24 _ (fun w h => BY.chg h HOY.out) Try.underlying24 rfl (by first | exact feInfo | kernel_rfl) hHeld ?_
  try simp only [Act.put, List.setIfInBounds_toArray, List.set_cons_zero, List.set_cons_succ]
  refine take_val (v := (.bool true)) 2 (some 25) rfl (by kernel_rfl) (by kernel_rfl) (by kernel_rfl) (fun _ _ _ h => h) rfl rfl (fun w hSw => ?_) hHeld ?_
  · (go_simp; try with_reducible rfl)
  try simp only [Act.put, List.setIfInBounds_toArray, List.set_cons_zero, List.set_cons_succ]
  refine take_val (v := ?_) 3 (some 26) rfl (by kernel_rfl) (by kernel_rfl) (by kernel_rfl) (fun _ _ _ h => h) rfl rfl (fun w hSw => ?_) hHeld ?_
  rotate_left
  · (go_simp; try with_reducible rfl)
  try simp only [Act.put, List.setIfInBounds_toArray, List.set_cons_zero, List.set_cons_succ]
  refine take_val (v := ?_) 4 (some 27) rfl (by kernel_rfl) (by kernel_rfl) (by kernel_rfl) (fun _ _ _ h => h) rfl rfl (fun w hSw => ?_) hHeld ?_
  rotate_left
  · (go_simp; try with_reducible rfl)
  try simp only [Act.put, List.setIfInBounds_toArray, List.set_cons_zero, List.set_cons_succ]
  refine take_val (v := ?_) 6 (some 29) rfl (by kernel_rfl) (by kernel_rfl) (by kernel_rfl) (fun _ _ _ h => h) rfl rfl (fun w hSw => ?_) hHeld ?_
  rotate_left
  · (go_simp; try with_reducible rfl)
  try simp only [Act.put, List.setIfInBounds_toArray, List.set_cons_zero, List.set_cons_succ]
  refine wpAnyH_ready (rs := [5]) (by kernel_rfl) (by simp) ?_
  refine AllReadyH.cons (o := _) rfl (fun K hK => ?_) ?_
  ·
    go_simp
    refine (num_any E _).mono ?_
    rintro e x5 ⟨rfl, rfl⟩
    go_wp2_with fail
    refine hK.out _ _ (hHeld) (fun hHeld => ?_)
    clear hK K
    try simp only [Act.put, List.setIfInBounds_toArray, List.set_cons_zero, List.set_cons_succ]
    refine take_val (v := (.bool true)) 7 (some 30) rfl (by kernel_rfl) (by kernel_rfl) (by kernel_rfl) (fun _ _ _ h => h) rfl rfl (fun w hSw => ?_) hHeld ?_
    · (go_simp; try with_reducible rfl)
    try simp only [Act.put, List.setIfInBounds_toArray, List.set_cons_zero, List.set_cons_succ]
    refine take_val (v := ?_) 8 (some 31) rfl (by kernel_rfl) (by kernel_rfl) (by kernel_rfl) (fun _ _ _ h => h) rfl rfl (fun w hSw => ?_) hHeld ?_
    rotate_left
    · (go_simp; try with_reducible rfl)
    try simp only [Act.put, List.setIfInBounds_toArray, List.set_cons_zero, List.set_cons_succ]
    refine take_val (v := ?_) 9 (some 32) rfl (by kernel_rfl) (by kernel_rfl) (by kernel_rfl) (fun _ _ _ h => h) rfl rfl (fun w hSw => ?_) hHeld ?_
    rotate_left
    · (go_simp; try with_reducible rfl)
    try simp only [Act.put, List.setIfInBounds_toArray, List.set_cons_zero, List.set_cons_succ]
    refine take_val (v := ?_) 10 (some 33) rfl (by kernel_rfl) (by kernel_rfl) (by kernel_rfl) (fun _ _ _ h => h) rfl rfl (fun w hSw => ?_) hHeld ?_
    rotate_left
    · (go_simp; try with_reducible rfl)
    try simp only [Act.put, List.setIfInBounds_toArray, List.set_cons_zero, List.set_cons_succ]
    refine take_val (v := ?_) 13 (some 36) rfl (by kernel_rfl) (by kernel_rfl) (by kernel_rfl) (fun _ _ _ h => h) rfl rfl (fun w hSw => ?_) hHeld ?_
    rotate_left
    · (go_simp; try with_reducible rfl)
    try simp only [Act.put, List.setIfInBounds_toArray, List.set_cons_zero, List.set_cons_succ]
    refine wpAnyH_ready (rs := [11]) (by kernel_rfl) (by simp) ?_
    refine AllReadyH.cons (o := _) rfl (fun K hK => ?_) ?_
    ·
      go_simp
      refine (GivenBytes_k gb n bx 1 v f Ga _ _ _ (by have := HN.out; omega) (by decide) BB SL G1).mono ?_
      rintro e x11 ⟨r, rfl, o2, la2, lb2, rfl, ho2, k, bo2, G2⟩
      go_wp2_with fail
      refine hK.out _ _ (hHeld.trans1 k) (fun hHeld => ?_)
      clear hK K
      try simp only [Act.put, List.setIfInBounds_toArray, List.set_cons_zero, List.set_cons_succ]
      replace SL := SL.chg k HOV.out
      have HGb : Hid (∀ q, q < 30 → ¬ q = 0 → ¬ q = 1 → upV (upV Ga 0 la2) (0 + 1) lb2 q = .slice none 0 0) := fun q h0 h1 h2 => by rw [upV_other _ _ _ _ h2, upV_other _ _ _ _ h1]; exact HGa.out q h0 h1 h2
      obtain ⟨Gb, hGb⟩ : ∃ G, upV (upV Ga 0 la2) (0 + 1) lb2 = G := ⟨_, rfl⟩
      rw [hGb] at G2 HGb
      clear k hGb G1
      refine wpAnyH_ready (rs := [12]) (by kernel_rfl) (by simp) ?_
      refine AllReadyH.cons (o := _) rfl (fun K hK => ?_) ?_
      ·
        go_simp
        refine (HRF.out _ o2 (gvq_bs bo2 HFB.out)).mono ?_
        rintro e x12 ⟨rfl, k⟩
        go_wp2_with fail
        refine hK.out _ _ (hHeld.trans1 k.wide) (fun hHeld => ?_)
        clear hK K
        try simp only [Act.put, List.setIfInBounds_toArray, List.set_cons_zero, List.set_cons_succ]
        replace SL := SL.chg k (Off.nil _)
        replace G2 := G2.chg k
        clear k
        refine wpAnyH_ready (rs := [14]) (by kernel_rfl) (by simp) ?_
        refine AllReadyH.cons (o := _) rfl (fun K hK => ?_) ?_
        ·
          go_simp
          refine (HRR.out _ v SL).mono ?_
          rintro e x14 ⟨rfl, k⟩
          go_wp2_with fail
          refine hK.out _ _ (hHeld.trans1 k.wide) (fun hHeld => ?_)
          clear hK K
          try simp only [Act.put, List.setIfInBounds_toArray, List.set_cons_zero, List.set_cons_succ]
          replace SL := SL.chg k (Off.nil _)
          replace G2 := G2.chg k
          clear k
          refine take_val (v := (.bool true)) 15 (some 38) rfl (by kernel_rfl) (by kernel_rfl) (by kernel_rfl) (fun _ _ _ h => h) rfl rfl (fun w hSw => ?_) hHeld ?_
          · (go_simp; try with_reducible rfl)
          try simp only [Act.put, List.setIfInBounds_toArray, List.set_cons_zero, List.set_cons_succ]
          refine take_val (v := ?_) 16 (some 39) rfl (by kernel_rfl) (by kernel_rfl) (by kernel_rfl) (fun _ _ _ h => h) rfl rfl (fun w hSw => ?_) hHeld ?_
          rotate_left
          · (go_simp; try with_reducible rfl)
          try simp only [Act.put, List.setIfInBounds_toArray, List.set_cons_zero, List.set_cons_succ]
          refine take_val (v := ?_) 17 (some 40) rfl (by kernel_rfl) (by kernel_rfl) (by kernel_rfl) (fun _ _ _ h => h) rfl rfl (fun w hSw => ?_) hHeld ?_
          rotate_left
          · (go_simp; try with_reducible rfl)
          try simp only [Act.put, List.setIfInBounds_toArray, List.set_cons_zero, List.set_cons_succ]
          refine take_load 18 (some 41) (feC a) rfl (by kernel_rfl) (by kernel_rfl) (by kernel_rfl) (fun _ _ _ h => h) rfl rfl 24 _ rfl bx rfl 24 _ (fun w h => F0.chg h HOF.out) Try.underlying24 rfl (by first | exact feInfo | kernel_rfl) hHeld ?_
          try simp only [Act.put, List.setIfInBounds_toArray, List.set_cons_zero, List.set_cons_succ]
          refine take_load 20 (some 43) (feC a) rfl (by kernel_rfl) (by kernel_rfl) (by kernel_rfl) (fun _ _ _ h => h) rfl rfl 24 _ rfl bx rfl 24 _ (fun w h => F0.chg h HOF.out) Try.underlying24 rfl (by first | exact feInfo | kernel_rfl) hHeld ?_
          try simp only [Act.put, List.setIfInBounds_toArray, List.set_cons_zero, List.set_cons_succ]
          refine wpAnyH_ready (rs := [19]) (by kernel_rfl) (by simp) ?_
          refine AllReadyH.cons (o := _) rfl (fun K hK => ?_) ?_
          ·
            go_simp
            refine (HCF.out _).mono ?_
            rintro e x19 ⟨rfl, k⟩
            go_wp2_with fail
            refine hK.out _ _ (hHeld.trans1 k.wide) (fun hHeld => ?_)
            clear hK K
            try simp only [Act.put, List.setIfInBounds_toArray, List.set_cons_zero, List.set_cons_succ]
            replace SL := SL.chg k (Off.nil _)
            replace G2 := G2.chg k
            clear k
            refine wpAnyH_ready (rs := [21]) (by kernel_rfl) (by simp) ?_
            refine AllReadyH.cons (o := _) rfl (fun K hK => ?_) ?_
            ·
              go_simp
              refine (HCR.out _).mono ?_
              rintro e x21 ⟨rfl, k⟩
              go_wp2_with fail
              refine hK.out _ _ (hHeld.trans1 k.wide) (fun hHeld => ?_)
              clear hK K
              try simp only [Act.put, List.setIfInBounds_toArray, List.set_cons_zero, List.set_cons_succ]
              replace SL := SL.chg k (Off.nil _)
              replace G2 := G2.chg k
              clear k
              refine take_val (v := (.bool true)) 22 (some 45) rfl (by kernel_rfl) (by kernel_rfl) (by kernel_rfl) (fun _ _ _ h => h) rfl rfl (fun w hSw => ?_) hHeld ?_
              · (cases t <;> go_simp)
              try simp only [Act.put, List.setIfInBounds_toArray, List.set_cons_zero, List.set_cons_succ]
              refine take_val (v := ?_) 23 (some 46) rfl (by kernel_rfl) (by kernel_rfl) (by kernel_rfl) (fun _ _ _ h => h) rfl rfl (fun w hSw => ?_) hHeld ?_
              rotate_left
              · (go_simp; try with_reducible rfl)
              try simp only [Act.put, List.setIfInBounds_toArray, List.set_cons_zero, List.set_cons_succ]
              refine take_val (v := ?_) 24 (some 47) rfl (by kernel_rfl) (by kernel_rfl) (by kernel_rfl) (fun _ _ _ h => h) rfl rfl (fun w hSw => ?_) hHeld ?_
              rotate_left
              · (go_simp; try with_reducible rfl)
              try simp only [Act.put, List.setIfInBounds_toArray, List.set_cons_zero, List.set_cons_succ]
              refine take_val (v := ?_) 25 (some 48) rfl (by kernel_rfl) (by kernel_rfl) (by kernel_rfl) (fun _ _ _ h => h) rfl rfl (fun w hSw => ?_) hHeld ?_
              rotate_left
              · (go_simp; try with_reducible rfl)
              try simp only [Act.put, List.setIfInBounds_toArray, List.set_cons_zero, List.set_cons_succ]
              refine take_val (v := ?_) 27 (some 50) rfl (by kernel_rfl) (by kernel_rfl) (by kernel_rfl) (fun _ _ _ h => h) rfl rfl (fun w hSw => ?_) hHeld ?_
              rotate_left
              · (go_simp; try with_reducible rfl)
              try simp only [Act.put, List.setIfInBounds_toArray, List.set_cons_zero, List.set_cons_succ]
              refine wpAnyH_ready (rs := [26]) (by kernel_rfl) (by simp) ?_
              refine AllReadyH.cons (o := _) rfl (fun K hK => ?_) ?_
              ·
                go_simp
                refine (FromInt_fe (q : Int) HWQ.out _).mono ?_
                rintro e x26 ⟨rfl, k⟩
                go_wp2_with fail
                refine hK.out _ _ (hHeld.trans1 k.wide) (fun hHeld => ?_)
                clear hK K
                try simp only [Act.put, List.setIfInBounds_toArray, List.set_cons_zero, List.set_cons_succ]
                replace SL := SL.chg k (Off.nil _)
                replace G2 := G2.chg k
                clear k
                refine wpAnyH_ready (rs := [28]) (by kernel_rfl) (by simp) ?_
                refine AllReadyH.cons (o := _) rfl (fun K hK => ?_) ?_
                ·
                  go_simp
                  refine (FromInt_r q HQ.out _).mono ?_
                  rintro e x28 ⟨rfl, k⟩
                  go_wp2_with fail
                  refine hK.out _ _ (hHeld.trans1 k.wide) (fun hHeld => ?_)
                  clear hK K
                  try simp only [Act.put, List.setIfInBounds_toArray, List.set_cons_zero, List.set_cons_succ]
                  replace SL := SL.chg k (Off.nil _)
                  replace G2 := G2.chg k
                  clear k
                  refine take_val (v := (.bool true)) 29 (some 52) rfl (by kernel_rfl) (by kernel_rfl) (by kernel_rfl) (fun _ _ _ h => h) rfl rfl (fun w hSw => ?_) hHeld ?_
                  · (go_simp; try with_reducible rfl)
                  try simp only [Act.put, List.setIfInBounds_toArray, List.set_cons_zero, List.set_cons_succ]
                  refine take_val (v := ?_) 30 (some 53) rfl (by kernel_rfl) (by kernel_rfl) (by kernel_rfl) (fun _ _ _ h => h) rfl rfl (fun w hSw => ?_) hHeld ?_
                  rotate_left
                  · (go_simp; try with_reducible rfl)
                  try simp only [Act.put, List.setIfInBounds_toArray, List.set_cons_zero, List.set_cons_succ]
                  refine take_val (v := ?_) 31 (some 54) rfl (by kernel_rfl) (by kernel_rfl) (by kernel_rfl) (fun _ _ _ h => h) rfl rfl (fun w hSw => ?_) hHeld ?_
                  rotate_left
                  · (go_simp; try with_reducible rfl)
                  try simp only [Act.put, List.setIfInBounds_toArray, List.set_cons_zero, List.set_cons_succ]
                  refine wpAnyH_ready (rs := [32]) (by kernel_rfl) (by simp) ?_
                  refine AllReadyH.cons (o := _) rfl (fun K hK => ?_) ?_
                  ·
                    go_simp
                    refine (Intact_b gb bx (1 + 1) Gb _ _ _ (by decide) G2 HGb.out ?_ ?_).mono ?_
                    · intro j hj
                      have h1 := HN.out
                      show (if j = 1 then n + 3 else if j = 0 then n + 3 else 0) ≤ _
                      split
                      · omega
                      · split <;> omega
                    · intro j hj
                      by_cases h1 : j = 1
                      · subst h1; exact ⟨gvf f n, by rw [if_pos rfl], fun i _ => gvf_lt HFB.out i⟩
                      · obtain rfl : j = 0 := by omega
                        exact ⟨gvf f n, by rw [if_neg (by decide), if_pos rfl], fun i _ => gvf_lt HFB.out i⟩
                    rintro e x32 ⟨rfl, k⟩
                    go_wp2_with fail
                    refine hK.out _ _ (hHeld.trans1 k.wide) (fun hHeld => ?_)
                    clear hK K
                    try simp only [Act.put, List.setIfInBounds_toArray, List.set_cons_zero, List.set_cons_succ]
                    replace SL := SL.chg k (Off.nil _)
                    replace G2 := G2.chg k
                    clear k
                    refine take_val (v := ?_) 33 (some 56) rfl (by kernel_rfl) (by kernel_rfl) (by kernel_rfl) (fun _ _ _ h => h) rfl rfl (fun w hSw => ?_) hHeld ?_
                    rotate_left
                    · (go_simp; try with_reducible rfl)
                    try simp only [Act.put, List.setIfInBounds_toArray, List.set_cons_zero, List.set_cons_succ]
                    refine take_val (v := ?_) 34 (some 57) rfl (by kernel_rfl) (by kernel_rfl) (by kernel_rfl) (fun _ _ _ h => h) rfl rfl (fun w hSw => ?_) hHeld ?_
                    rotate_left
                    · (go_simp; try with_reducible rfl)
                    try simp only [Act.put, List.setIfInBounds_toArray, List.set_cons_zero, List.set_cons_succ]
                    refine wpAnyH_ready (rs := [35]) (by kernel_rfl) (by simp) ?_
                    refine AllReadyH.cons (o := _) rfl (fun K hK => ?_) ?_
                    ·
                      go_simp
                      refine (alive_true _).mono ?_
                      rintro e x35 ⟨rfl, k⟩
                      go_wp2_with fail
                      refine hK.out _ _ (hHeld.trans1 k.wide) (fun hHeld => ?_)
                      clear hK K
                      try simp only [Act.put, List.setIfInBounds_toArray, List.set_cons_zero, List.set_cons_succ]
                      replace SL := SL.chg k (Off.nil _)
                      replace G2 := G2.chg k
                      clear k
                      refine take_val (v := ?_) 36 (some 59) rfl (by kernel_rfl) (by kernel_rfl) (by kernel_rfl) (fun _ _ _ h => h) rfl rfl (fun w hSw => ?_) hHeld ?_
                      rotate_left
                      · (go_simp; try with_reducible rfl)
                      try simp only [Act.put, List.setIfInBounds_toArray, List.set_cons_zero, List.set_cons_succ]
                      refine take_val (v := ?_) 37 (some 6) rfl (by kernel_rfl) (by kernel_rfl) (by kernel_rfl) (fun _ _ _ h => h) rfl rfl (fun w hSw => ?_) hHeld ?_
                      rotate_left
                      · (go_simp; try with_reducible rfl)
                      try simp only [Act.put, List.setIfInBounds_toArray, List.set_cons_zero, List.set_cons_succ]
                      refine wpAnyH_done (by kernel_rfl) ?_ _
                      go_wp2_with fail
                      go_ret
                      exact ⟨rfl, CC.trans hHeld (fun x hx => Or.inr (HGE.out x hx))⟩
                    exact AllReadyH.nil
                  exact AllReadyH.nil
                exact AllReadyH.nil
              exact AllReadyH.nil
            exact AllReadyH.nil
          exact AllReadyH.nil
        exact AllReadyH.nil
      exact AllReadyH.nil
    exact AllReadyH.nil
  exact AllReadyH.nil
end
section
section
open Go.ChangeShapes Go.WideShapes Go.ChangeAt Go.RowKit Go.Deep N

theorem u8Bytes : Try.prog.bytesOf 5 = 1 := by kernel_rfl
theorem nat_r256 {a : Int} (ra : R256 a) : ∃ n : Nat, a = (n : Int) ∧ n < 115792089237316195423570985008687907853269984665640564039457584007913129639936 := by
  obtain ⟨n, rfl⟩ := Int.eq_ofNat_of_zero_le ra.1
  exact ⟨n, rfl, by unfold R256 at ra; omega⟩
theorem shape_lt {w : World} {b : Nat} {x : TypeId × Nat} (h : w.shape? b = some x) : b < w.heap.size := by
  unfold World.shape? at h
  by_cases hb : b < w.heap.size
  · exact hb
  · rw [Array.getElem?_eq_none (by omega)] at h
    simp at h
set_option maxRecDepth 100000 in
/-- A []byte that came in. -/
theorem open_bytes {H : Type} {enc : TypeId × Value → H} {w : World} {r : Reach} {b0 base : Nat} {spare : Nat → Bool} {held : Bool} {v : Value} {d : DataW H} {p : List MemPlace}
    (hv : Value.okWide Try.prog w r b0 22 v) (h : DataW.Trod enc Try.prog w base spare held 22 v d p) :
    ∃ n f, Sl w v n f ∧ (n = 0 ∨ ∃ elems spare, d = .slice elems spare ∧ elems.length = n) := by
  obtain ⟨fuel, hf⟩ := h
  obtain ⟨a0, l0, c0, rfl⟩ := okWide_slice Try.underlying22 hv
  rcases open_slice1 Try.underlying22 u8Cells hf with ⟨h0, _⟩ | ⟨a, len, cap, m, n, V, D, Pl, h0, _, hl, hc, hm, hd, hx⟩
  · refine ⟨0, fun _ => 0, Or.inl ⟨rfl, ?_⟩, Or.inl rfl⟩
    simpa [Value.cells] using h0
  · have h0' : Value.slice a0 l0 c0 = .slice (some a) len cap := by simpa [Value.cells] using h0
    rw [h0'] at hv ⊢
    simp only [Value.okWide, Try.underlying22, Cell.okWide, Cell.ok, World.has] at hv
    obtain ⟨_, _, _, hs, row, cells, hsh, _⟩ := hv
    have hlt := shape_lt hsh
    obtain ⟨g, o, spot⟩ := a
    simp only at hs
    subst hs
    have hml : len ≤ m := by rw [hm]; split <;> omega
    refine ⟨len, fun i => (intOf (V i)).toNat, Or.inr ⟨g, o, cap, rfl, hl, by simpa [maxLen] using hc, hlt, fun i hi => ?_, fun i hi => ?_⟩, Or.inr ⟨_, _, (Prod.mk.inj hd).1, by simp⟩⟩
    · obtain ⟨_, h2⟩ := hx i (by omega)
      obtain ⟨k, e1, _, wf⟩ := DataW.trod_int Try.underlying5 h2
      have u := u8_wf wf
      have e2 : V i = .int .u8 k := by simpa using e1
      rw [e2]
      simp only [intOf]
      omega
    · obtain ⟨h1, h2⟩ := hx i (by omega)
      obtain ⟨k, e1, _, wf⟩ := DataW.trod_int Try.underlying5 h2
      have u := u8_wf wf
      have e2 : V i = .int .u8 k := by simpa using e1
      have ha : (Addr.add ⟨g, o, none⟩ i) = ⟨g, o + i, none⟩ := Addr.add_mid g o i
      rw [ha, e2] at h1
      rw [h1, e2]
      simp only [intOf]
      rw [Int.toNat_of_nonneg u.1]
theorem length_upto {H : Type} : ∀ l : List (DataW H), l.length ≤ Rows.uptoBulkAll l
  | [] => by simp [Rows.uptoBulkAll]
  | x :: r => by
    have h := length_upto r
    have h1 : 1 ≤ Rows.uptoBulk x := by
      cases x with
      | lit l => cases l <;> simp [Rows.uptoBulk]
      | nil => simp [Rows.uptoBulk]
      | ptr d => simp [Rows.uptoBulk]
      | slice elems spare => simp [Rows.uptoBulk]
      | agg parts => simp [Rows.uptoBulk]
      | _ => simp [Rows.uptoBulk]
    simp only [Rows.uptoBulkAll, List.length_cons]
    omega
set_option maxRecDepth 100000 in
/-- A uint64 that came in. -/
theorem open_u64 {H : Type} {enc : TypeId × Value → H} {w : World} {r : Reach} {b0 base : Nat} {spare : Nat → Bool} {held : Bool} {v : Value} {d : DataW H} {p : List MemPlace}
    (hv : Value.okWide Try.prog w r b0 25 v) (h : DataW.Trod enc Try.prog w base spare held 25 v d p) : ∃ n : Nat, v = .int .u64 (n : Int) ∧ n < 18446744073709551616 := by
  obtain ⟨k, rfl, _, _, wf⟩ := open_int Try.underlying25 hv h
  have hb := bounds_u64 wf
  clear hv h wf
  obtain ⟨n, rfl⟩ := Int.eq_ofNat_of_zero_le (show 0 ≤ k by omega)
  exact ⟨n, rfl, by omega⟩
set_option maxRecDepth 100000 in
theorem fieldBytes_lifted (os : Os) (started : os.Started) (H : Type) (enc : TypeId × Value → H) (F : Stop.Interp) :
    ReturnsInHanded {} Try.checked os 3 .any ((Rows.OpenSpec.upto Rows.fieldBytesSpec).pre6 enc Try.prog Try.f3 Rows.fieldBytesUptoRow.domain false) (((Rows.OpenSpec.upto Rows.fieldBytesSpec).at F).post enc Try.prog Try.f3 false true false false) := by
  refine returnsInHanded_of_cond (C := Try.checked) (s := Rows.OpenSpec.upto Rows.fieldBytesSpec) (k := Rows.uptoSmall) rfl own started (by kernel_rfl) Try.func3
    (OpenSpec.witness (enc := enc) (C := Try.checked) (s := Rows.OpenSpec.upto Rows.fieldBytesSpec) (k := Rows.uptoSmall) rfl false ⟨#[], #[.slice none 0 0, .agg z32, .int .u64 0], []⟩ 8 (by kernel_rfl) (by kernel_rfl) (by kernel_rfl)
      (x := ([.nil, .agg (List.replicate 32 (.lit (.int .u8 0))), .lit (.int .u64 0)], [], [])) (by kernel_rfl) rfl (by kernel_rfl)) ?_
  intro W base args ds gs before hval0 hW _ hk _
  have hval : ∀ (j : Nat) t v, Try.f3.params[j]? = some t → args[j]? = some v → Value.okWide Try.prog W .any base t v := hval0
  have hW' := hW
  obtain ⟨p, q, hA0, hV, rfl, hfz, hnd⟩ := hW
  have hA : DataW.TrodAll enc Try.prog W 0 (fun _ => true) true Try.f3.params.toList args.toList ds p := hA0
  rw [Try.params3] at hA hval
  obtain ⟨v0, v1, v2, d0, d1, d2, p0, p1, p2, rfl, rfl, rfl, h0, h1, h2⟩ := trodAll_three hA
  obtain ⟨rfl, rfl⟩ := trodVars_none hV
  have lt0 : ∀ x ∈ p0, x.block < W.heap.size := by obtain ⟨m, hm⟩ := h0; exact DataW.trod_lt m _ _ _ hm
  have lt1 : ∀ x ∈ p1, x.block < W.heap.size := by obtain ⟨m, hm⟩ := h1; exact DataW.trod_lt m _ _ _ hm
  have lt2 : ∀ x ∈ p2, x.block < W.heap.size := by obtain ⟨m, hm⟩ := h2; exact DataW.trod_lt m _ _ _ hm
  obtain ⟨n, f, hS, hd⟩ := open_bytes (hval 0 22 v0 rfl rfl) h0
  obtain ⟨a, ra, rfl⟩ := open_fe (hval 1 24 v1 rfl rfl) h1
  obtain ⟨c, rfl, hc⟩ := open_u64 (hval 2 25 v2 rfl rfl) h2
  have hn : n ≤ 1048576 := by
    rcases hd with rfl | ⟨elems, spare, rfl, he⟩
    · omega
    · have hb := of_decide_eq_true hk
      have hl := length_upto elems
      simp only [List.append_nil, Rows.uptoBulkAll, Rows.uptoBulk] at hb
      omega
  clear hA0 hval0
  refine (fbytes_walk v0 n f hn a ra c hc W hS).mono fun e W' ⟨he, hc⟩ => ?_
  have bel := hc.below
  subst he
  exact ⟨_, rfl, _, _, _, [], _, [], hW', trodAll_mk1 (shut_bool Try.underlying4 _), (trodAll_cons_mk (Below.trod laidOut (by kernel_rfl) (of_decide_eq_true (by kernel_rfl)) h0 bel lt0) (trodAll_cons_mk (Below.trod laidOut (by kernel_rfl) (of_decide_eq_true (by kernel_rfl)) h1 bel lt1) (trodAll_cons_mk (Below.trod laidOut (by kernel_rfl) (of_decide_eq_true (by kernel_rfl)) h2 bel lt2) trodAll_mk0))), rfl, bel.frame _, fun h => by cases h⟩

theorem fieldBytes_holds : Rows.FieldBytesUptoSaid :=
  OpenClaim.holds_of_cond 3 Try.f3 rfl rfl rfl rfl rfl rfl rfl ⟨rfl, rfl, rfl, rfl, rfl⟩ rfl rfl rfl rfl rfl (by kernel_rfl) Try.func3 (by kernel_rfl)
    (of_decide_eq_true (by kernel_rfl)) (by unfold Func.isWrapper; first | (rw [if_pos (by decide +kernel)]; kernel_rfl) | (rw [if_neg (by decide +kernel)]; exact ⟨rfl, rfl⟩))
    (fun os started H enc _ F => fieldBytes_lifted os started H enc F)
end
end
end Go.Proofs.Ytialljmkkichiaa
