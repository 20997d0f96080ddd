/- ScalarTakes: the walk. -/
import Derived.Test.YtcdgkhejbdlapaaTkRef
import Derived.Test.YtcdgkhejbdlapaaWorks
set_option linter.unusedVariables false
set_option linter.unusedSimpArgs false
set_option linter.unnecessarySimpa false
namespace Go.Proofs.Ytcdgkhejbdlapaa
open Go.RowKit N

theorem off_nil (v : Value) : Off v [] := fun _ _ _ _ _ h => by cases h
attribute [local irreducible] gC yC gvf nb dX dE
set_option maxHeartbeats 16000000 in
set_option maxRecDepth 100000 in
theorem takes_walk (v : Value) (n : Nat) (f : Nat → Nat) (hn : n ≤ 140737488355328) (m : Nat) (hm : m < 115792089237316195423570985008687907853269984665640564039457584007913129639936) (c : Nat) (hc : c < 18446744073709551616) (w : World) (hS : Sl w v n f) :
    Calls Try.prog 3 #[v, fe (m : Int), .int .u64 (c : Int)] w fun e w' => e = .returned (.bool true) ∧ Chg w w' [] := by
  have hge := feGuard
  have hf := sl_lt hS
  have ra : R256 (m : Int) := ⟨by omega, by omega⟩
  have wc : Wo (c : Int) := ⟨by omega, by omega⟩
  have hO : Off v [(w.heap.size + 1)] := hS.new _ (by simp)
  have hO0 : Off v [] := off_nil v
  obtain ⟨dx, hdx⟩ : ∃ x, dX n f = x := ⟨_, rfl⟩
  have HX1 : Hid (dX n (gvf f n) = dx) := by show dX n (gvf f n) = dx; rw [dX_gvf, hdx]
  have HX2 : Hid (dX n f = dx) := hdx
  obtain ⟨de, hde⟩ : ∃ x, dE n f = x := ⟨_, rfl⟩
  have HE1 : Hid (dE n (gvf f n) = de) := by show dE n (gvf f n) = de; rw [dE_gvf, hde]
  have HE2 : Hid (dE n f = de) := hde
  obtain ⟨RX, hRX⟩ : ∃ x, nb f 0 n % LN = x := ⟨_, rfl⟩
  have HR2 : Hid (nb f 0 n % LN = RX) := hRX
  have HR1 : Hid (((nb (gvf f n) 0 n : Nat) : Int) % L = ((RX : Nat) : Int)) := by show ((nb (gvf f n) 0 n : Nat) : Int) % L = ((RX : Nat) : Int); rw [nb_gvf, ← hRX, Int.natCast_emod, LN_eq]
  obtain ⟨t, ht⟩ : ∃ t, eqf (m : Int) ((m : Int) % L) = t := ⟨_, rfl⟩
  have HC : Hid (eqf (m : Int) ((m : Int) % L) = t) := ht
  clear hdx hde hRX ht
  have F0 : Blk ((w.alloc (.cells (feC (m : Int)) 24)).alloc (.cells (#[.slice none 0 0, .slice none 0 0, .slice none 0 0, .slice none 0 0, .slice none 0 0, .slice none 0 0, .slice none 0 0, .slice none 0 0, .slice none 0 0, .slice none 0 0, .slice none 0 0, .slice none 0 0, .slice none 0 0, .slice none 0 0, .slice none 0 0, .slice none 0 0, .slice none 0 0, .slice none 0 0, .slice none 0 0, .slice none 0 0, .slice none 0 0, .slice none 0 0, .slice none 0 0, .slice none 0 0, .slice none 0 0, .slice none 0 0, .slice none 0 0, .slice none 0 0, .slice none 0 0, .slice none 0 0]) 42)) w.heap.size (feC (m : Int)) 24 := (Blk.new w (feC (m : Int)) 24).alloc _
  have G0 : Blk ((w.alloc (.cells (feC (m : Int)) 24)).alloc (.cells (#[.slice none 0 0, .slice none 0 0, .slice none 0 0, .slice none 0 0, .slice none 0 0, .slice none 0 0, .slice none 0 0, .slice none 0 0, .slice none 0 0, .slice none 0 0, .slice none 0 0, .slice none 0 0, .slice none 0 0, .slice none 0 0, .slice none 0 0, .slice none 0 0, .slice none 0 0, .slice none 0 0, .slice none 0 0, .slice none 0 0, .slice none 0 0, .slice none 0 0, .slice none 0 0, .slice none 0 0, .slice none 0 0, .slice none 0 0, .slice none 0 0, .slice none 0 0, .slice none 0 0, .slice none 0 0]) 42)) (w.heap.size + 1) (gC (.slice none 0 0) (.slice none 0 0)) 42 := by rw [gC_lit]; have h := Blk.new (w.alloc (.cells (feC (m : Int)) 24)) (#[.slice none 0 0, .slice none 0 0, .slice none 0 0, .slice none 0 0, .slice none 0 0, .slice none 0 0, .slice none 0 0, .slice none 0 0, .slice none 0 0, .slice none 0 0, .slice none 0 0, .slice none 0 0, .slice none 0 0, .slice none 0 0, .slice none 0 0, .slice none 0 0, .slice none 0 0, .slice none 0 0, .slice none 0 0, .slice none 0 0, .slice none 0 0, .slice none 0 0, .slice none 0 0, .slice none 0 0, .slice none 0 0, .slice none 0 0, .slice none 0 0, .slice none 0 0, .slice none 0 0, .slice none 0 0]) 42; simpa using h
  have CC : Chg w ((w.alloc (.cells (feC (m : Int)) 24)).alloc (.cells (#[.slice none 0 0, .slice none 0 0, .slice none 0 0, .slice none 0 0, .slice none 0 0, .slice none 0 0, .slice none 0 0, .slice none 0 0, .slice none 0 0, .slice none 0 0, .slice none 0 0, .slice none 0 0, .slice none 0 0, .slice none 0 0, .slice none 0 0, .slice none 0 0, .slice none 0 0, .slice none 0 0, .slice none 0 0, .slice none 0 0, .slice none 0 0, .slice none 0 0, .slice none 0 0, .slice none 0 0, .slice none 0 0, .slice none 0 0, .slice none 0 0, .slice none 0 0, .slice none 0 0, .slice none 0 0]) 42)) [] := ((Chg.refl w []).alloc (.cells (feC (m : Int)) 24)).alloc (.cells (#[.slice none 0 0, .slice none 0 0, .slice none 0 0, .slice none 0 0, .slice none 0 0, .slice none 0 0, .slice none 0 0, .slice none 0 0, .slice none 0 0, .slice none 0 0, .slice none 0 0, .slice none 0 0, .slice none 0 0, .slice none 0 0, .slice none 0 0, .slice none 0 0, .slice none 0 0, .slice none 0 0, .slice none 0 0, .slice none 0 0, .slice none 0 0, .slice none 0 0, .slice none 0 0, .slice none 0 0, .slice none 0 0, .slice none 0 0, .slice none 0 0, .slice none 0 0, .slice none 0 0, .slice none 0 0]) 42)
  replace hS := hS.chg CC (hS.new _ (by simp))
  go_enter Try.func3, Try.ntmps3
  go_wp2_with fail
  generalize hv0 : ((w.alloc (.cells (feC (m : Int)) 24)).alloc (.cells (#[.slice none 0 0, .slice none 0 0, .slice none 0 0, .slice none 0 0, .slice none 0 0, .slice none 0 0, .slice none 0 0, .slice none 0 0, .slice none 0 0, .slice none 0 0, .slice none 0 0, .slice none 0 0, .slice none 0 0, .slice none 0 0, .slice none 0 0, .slice none 0 0, .slice none 0 0, .slice none 0 0, .slice none 0 0, .slice none 0 0, .slice none 0 0, .slice none 0 0, .slice none 0 0, .slice none 0 0, .slice none 0 0, .slice none 0 0, .slice none 0 0, .slice none 0 0, .slice none 0 0, .slice none 0 0]) 42)) = v0 at F0 G0 CC hS
  try (change Calls Try.prog _ _ ((w.alloc (.cells (feC (m : Int)) 24)).alloc (.cells (#[.slice none 0 0, .slice none 0 0, .slice none 0 0, .slice none 0 0, .slice none 0 0, .slice none 0 0, .slice none 0 0, .slice none 0 0, .slice none 0 0, .slice none 0 0, .slice none 0 0, .slice none 0 0, .slice none 0 0, .slice none 0 0, .slice none 0 0, .slice none 0 0, .slice none 0 0, .slice none 0 0, .slice none 0 0, .slice none 0 0, .slice none 0 0, .slice none 0 0, .slice none 0 0, .slice none 0 0, .slice none 0 0, .slice none 0 0, .slice none 0 0, .slice none 0 0, .slice none 0 0, .slice none 0 0]) 42)) _; rw [hv0])
  clear hv0
  obtain ⟨gb, hgb⟩ : ∃ g, w.heap.size + 1 = g := ⟨_, rfl⟩
  rw [hgb] at hO G0
  try rw [hgb]
  have hgl : w.heap.size ≤ gb := by omega
  have hgn : ¬ w.heap.size = gb := by omega
  clear hgb
  refine (GivenBytes_1 gb n v f (Array.replicate 28 (.slice none 0 0)) _ hn hS (by unfold gC at G0; exact G0)).mono ?_
  rintro e x2 ⟨r, rfl, o, la, lb, x, rfl, k, ho, bo, ox, ola, olb, bg⟩
  obtain ⟨lg, lc, rfl, _, _, cl⟩ := ola.form
  obtain ⟨mg, mc, rfl, _, _, cr⟩ := olb.form
  obtain ⟨xg, xc, rfl, _, _, _, bx⟩ := ox.form (by omega)
  have k2 : Chg x2 x2 [] := Chg.refl x2 []
  replace bg : Blk x2 gb (gC (.slice (some ⟨lg, 0, none⟩) 1 lc) (.slice (some ⟨mg, 0, none⟩) 1 mc)) 42 := by unfold gC; exact bg
  replace F0 := F0.chg k (by simpa using hgn)
  replace hS := hS.chg k hO
  replace CC := CC.new k hgl
  clear ola olb ox G0 k
  go_wp2_with fail
  refine (Decode_o o 0 (n + 3) n (gvf f n) (by omega) (by omega) _ (bs_yC bo (by omega) (fun i _ => gvf_lt hf i))).mono ?_
  rintro e x2b ⟨rfl, k⟩
  rw [HX1.out, HE1.out]
  replace F0 := F0.chg k (by simp)
  replace hS := hS.chg k hO0
  replace k2 := k2.trans1 k
  replace CC := CC.trans1 k
  clear k
  have BX := Blk.new x2b z32 24
  have hlv3 : w.heap.size < x2b.heap.size := F0.lt
  have KS : Chg x2b ((x2b.alloc (.cells z32 24)).setRow x2b.heap.size (feC dx)) [] := ((Chg.refl x2b []).alloc (.cells z32 24)).setRowNew (Nat.le_refl _) _
  replace F0 := F0.chg KS (by simp)
  replace hS := hS.chg KS hO0
  replace k2 := k2.trans1 KS
  replace CC := CC.trans1 KS
  clear KS
  go_wp2_with (refine wpList_store_row rfl 24 _ _ rfl x2b.heap.size (feC dx) rfl rfl 24 _ BX feInfo rfl (feC_one _) ?_)
  replace BX := BX.setRow (feC dx)
  try (change Calls Try.prog _ _ ((x2b.alloc (.cells z32 24)).setRow x2b.heap.size (feC dx)) _)
  generalize ((x2b.alloc (.cells z32 24)).setRow x2b.heap.size (feC dx)) = v3 at *
  generalize x2b.heap.size = gx at *
  refine (Decode_rs v n f _ hS).mono ?_
  rintro e x3b ⟨rfl, k⟩
  rw [HX2.out, HE2.out]
  replace F0 := F0.chg k (by simp)
  replace BX := BX.chg k (by simp)
  replace hS := hS.chg k hO0
  replace k2 := k2.trans1 k
  replace CC := CC.trans1 k
  clear k
  have BY := Blk.new x3b z32 24
  have hlv4 : w.heap.size < x3b.heap.size := F0.lt
  have KS : Chg x3b ((x3b.alloc (.cells z32 24)).setRow x3b.heap.size (feC dx)) [] := ((Chg.refl x3b []).alloc (.cells z32 24)).setRowNew (Nat.le_refl _) _
  replace F0 := F0.chg KS (by simp)
  replace BX := BX.chg KS (by simp)
  replace hS := hS.chg KS hO0
  replace k2 := k2.trans1 KS
  replace CC := CC.trans1 KS
  clear KS
  go_wp2_with (refine wpList_store_row rfl 24 _ _ rfl x3b.heap.size (feC dx) rfl rfl 24 _ BY feInfo rfl (feC_one _) ?_)
  replace BY := BY.setRow (feC dx)
  change Code.wp _ _ _ _ ((x3b.alloc (.cells z32 24)).setRow x3b.heap.size (feC dx))
  generalize ((x3b.alloc (.cells z32 24)).setRow x3b.heap.size (feC dx)) = v4 at *
  generalize x3b.heap.size = gy at *
  refine wp_region_held_drew (S := fun w' => Chg v4 w' []) (by kernel_rfl) ((Chg.refl v4 _).drew) (fun hHeld => ?_)
  replace k2 := k2.drew
  refine take_load 0 (some 25) (feC dx) rfl (by kernel_rfl) (by kernel_rfl) (by kernel_rfl) (fun _ _ _ h => h) rfl rfl 24 _ rfl gx rfl 24 _ (fun w h => BX.chg h (by simp)) Try.underlying24 rfl (by first | exact feInfo | kernel_rfl) hHeld ?_
  try simp only [Act.put, List.setIfInBounds_toArray, List.set_cons_zero, List.set_cons_succ]
  refine take_load 1 (some 26) (feC dx) rfl (by kernel_rfl) (by kernel_rfl) (by kernel_rfl) (fun _ _ _ h => h) rfl rfl 24 _ rfl gy rfl 24 _ (fun w h => BY.chg h (by simp)) Try.underlying24 rfl (by first | exact feInfo | kernel_rfl) hHeld ?_
  try simp only [Act.put, List.setIfInBounds_toArray, List.set_cons_zero, List.set_cons_succ]
  refine take_val (v := (.bool true)) 2 (some 27) rfl (by kernel_rfl) (by kernel_rfl) (by kernel_rfl) (fun _ _ _ h => h) rfl rfl (fun w hSw => ?_) hHeld ?_
  · (go_simp; try with_reducible rfl)
  try simp only [Act.put, List.setIfInBounds_toArray, List.set_cons_zero, List.set_cons_succ]
  refine take_val (v := ?_) 3 (some 28) rfl (by kernel_rfl) (by kernel_rfl) (by kernel_rfl) (fun _ _ _ h => h) rfl rfl (fun w hSw => ?_) hHeld ?_
  rotate_left
  · (go_simp; try with_reducible rfl)
  try simp only [Act.put, List.setIfInBounds_toArray, List.set_cons_zero, List.set_cons_succ]
  refine take_val (v := ?_) 4 (some 29) rfl (by kernel_rfl) (by kernel_rfl) (by kernel_rfl) (fun _ _ _ h => h) rfl rfl (fun w hSw => ?_) hHeld ?_
  rotate_left
  · (go_simp; try with_reducible rfl)
  try simp only [Act.put, List.setIfInBounds_toArray, List.set_cons_zero, List.set_cons_succ]
  refine take_val (v := ?_) 6 (some 31) rfl (by kernel_rfl) (by kernel_rfl) (by kernel_rfl) (fun _ _ _ h => h) rfl rfl (fun w hSw => ?_) hHeld ?_
  rotate_left
  · (go_simp; try with_reducible rfl)
  try simp only [Act.put, List.setIfInBounds_toArray, List.set_cons_zero, List.set_cons_succ]
  refine wpAnyH_ready (rs := [5]) (by kernel_rfl) (by simp) ?_
  refine AllReadyH.cons (o := _) rfl (fun K hK => ?_) ?_
  ·
    go_simp
    refine (num_s de _).mono ?_
    rintro e x5 ⟨rfl, rfl⟩
    go_wp2_with fail
    refine hK.out _ _ (hHeld) (fun hHeld => ?_)
    clear hK K
    try simp only [Act.put, List.setIfInBounds_toArray, List.set_cons_zero, List.set_cons_succ]
    refine take_val (v := (.bool true)) 7 (some 32) rfl (by kernel_rfl) (by kernel_rfl) (by kernel_rfl) (fun _ _ _ h => h) rfl rfl (fun w hSw => ?_) hHeld ?_
    · (go_simp; try with_reducible rfl)
    try simp only [Act.put, List.setIfInBounds_toArray, List.set_cons_zero, List.set_cons_succ]
    refine take_val (v := ?_) 8 (some 33) rfl (by kernel_rfl) (by kernel_rfl) (by kernel_rfl) (fun _ _ _ h => h) rfl rfl (fun w hSw => ?_) hHeld ?_
    rotate_left
    · (go_simp; try with_reducible rfl)
    try simp only [Act.put, List.setIfInBounds_toArray, List.set_cons_zero, List.set_cons_succ]
    refine take_val (v := ?_) 9 (some 34) rfl (by kernel_rfl) (by kernel_rfl) (by kernel_rfl) (fun _ _ _ h => h) rfl rfl (fun w hSw => ?_) hHeld ?_
    rotate_left
    · (go_simp; try with_reducible rfl)
    try simp only [Act.put, List.setIfInBounds_toArray, List.set_cons_zero, List.set_cons_succ]
    refine take_val (v := ?_) 10 (some 35) rfl (by kernel_rfl) (by kernel_rfl) (by kernel_rfl) (fun _ _ _ h => h) rfl rfl (fun w hSw => ?_) hHeld ?_
    rotate_left
    · (go_simp; try with_reducible rfl)
    try simp only [Act.put, List.setIfInBounds_toArray, List.set_cons_zero, List.set_cons_succ]
    refine take_val (v := ?_) 12 (some 37) rfl (by kernel_rfl) (by kernel_rfl) (by kernel_rfl) (fun _ _ _ h => h) rfl rfl (fun w hSw => ?_) hHeld ?_
    rotate_left
    · (go_simp; try with_reducible rfl)
    try simp only [Act.put, List.setIfInBounds_toArray, List.set_cons_zero, List.set_cons_succ]
    refine wpAnyH_ready (rs := [11]) (by kernel_rfl) (by simp) ?_
    refine AllReadyH.cons (o := _) rfl (fun K hK => ?_) ?_
    ·
      go_simp
      refine (Reduce_b o 0 (n + 3) n (gvf f n) (by omega) (by omega) hn _ (bs_yC (bo.chg k2 (by simp)) (by omega) (fun i _ => gvf_lt hf i))).mono ?_
      rintro e x11 ⟨rfl, k⟩
      replace k2 := k2.trans1 k
      rw [HR1.out]
      go_wp2_with fail
      refine hK.out _ _ (hHeld.trans1 k) (fun hHeld => ?_)
      clear hK K
      try simp only [Act.put, List.setIfInBounds_toArray, List.set_cons_zero, List.set_cons_succ]
      refine wpAnyH_ready (rs := [13]) (by kernel_rfl) (by simp) ?_
      refine AllReadyH.cons (o := _) rfl (fun K hK => ?_) ?_
      ·
        go_simp
        refine (Reduce_rs v n f hn _ (hS.chg hHeld hO0) RX HR2.out).mono ?_
        rintro e x13 ⟨rfl, k⟩
        replace k2 := k2.trans1 k
        go_wp2_with fail
        refine hK.out _ _ (hHeld.trans1 k) (fun hHeld => ?_)
        clear hK K
        try simp only [Act.put, List.setIfInBounds_toArray, List.set_cons_zero, List.set_cons_succ]
        refine take_val (v := (.bool true)) 14 (some 39) rfl (by kernel_rfl) (by kernel_rfl) (by kernel_rfl) (fun _ _ _ h => h) rfl rfl (fun w hSw => ?_) hHeld ?_
        · (go_simp; try with_reducible rfl)
        try simp only [Act.put, List.setIfInBounds_toArray, List.set_cons_zero, List.set_cons_succ]
        refine take_val (v := ?_) 15 (some 40) rfl (by kernel_rfl) (by kernel_rfl) (by kernel_rfl) (fun _ _ _ h => h) rfl rfl (fun w hSw => ?_) hHeld ?_
        rotate_left
        · (go_simp; try with_reducible rfl)
        try simp only [Act.put, List.setIfInBounds_toArray, List.set_cons_zero, List.set_cons_succ]
        refine take_val (v := ?_) 16 (some 41) rfl (by kernel_rfl) (by kernel_rfl) (by kernel_rfl) (fun _ _ _ h => h) rfl rfl (fun w hSw => ?_) hHeld ?_
        rotate_left
        · (go_simp; try with_reducible rfl)
        try simp only [Act.put, List.setIfInBounds_toArray, List.set_cons_zero, List.set_cons_succ]
        refine take_load 17 (some 42) (feC (m : Int)) rfl (by kernel_rfl) (by kernel_rfl) (by kernel_rfl) (fun _ _ _ h => h) rfl rfl 24 _ rfl w.heap.size rfl 24 _ (fun w h => F0.chg h (by simp)) Try.underlying24 rfl (by first | exact feInfo | kernel_rfl) hHeld ?_
        try simp only [Act.put, List.setIfInBounds_toArray, List.set_cons_zero, List.set_cons_succ]
        refine take_load 19 (some 44) (feC (m : Int)) rfl (by kernel_rfl) (by kernel_rfl) (by kernel_rfl) (fun _ _ _ h => h) rfl rfl 24 _ rfl w.heap.size rfl 24 _ (fun w h => F0.chg h (by simp)) Try.underlying24 rfl (by first | exact feInfo | kernel_rfl) hHeld ?_
        try simp only [Act.put, List.setIfInBounds_toArray, List.set_cons_zero, List.set_cons_succ]
        refine wpAnyH_ready (rs := [18]) (by kernel_rfl) (by simp) ?_
        refine AllReadyH.cons (o := _) rfl (fun K hK => ?_) ?_
        ·
          go_simp
          refine (Canonical_s (m : Int) ra _).mono ?_
          rintro e x18 ⟨rfl, k⟩
          replace k2 := k2.trans1 k
          rw [HC.out]
          go_wp2_with fail
          refine hK.out _ _ (hHeld.trans1 k) (fun hHeld => ?_)
          clear hK K
          try simp only [Act.put, List.setIfInBounds_toArray, List.set_cons_zero, List.set_cons_succ]
          refine wpAnyH_ready (rs := [20]) (by kernel_rfl) (by simp) ?_
          refine AllReadyH.cons (o := _) rfl (fun K hK => ?_) ?_
          ·
            go_simp
            refine (Canonical_q (m : Int) ra t HC.out _).mono ?_
            rintro e x20 ⟨rfl, k⟩
            replace k2 := k2.trans1 k
            go_wp2_with fail
            refine hK.out _ _ (hHeld.trans1 k) (fun hHeld => ?_)
            clear hK K
            try simp only [Act.put, List.setIfInBounds_toArray, List.set_cons_zero, List.set_cons_succ]
            refine take_val (v := (.bool true)) 21 (some 46) rfl (by kernel_rfl) (by kernel_rfl) (by kernel_rfl) (fun _ _ _ h => h) rfl rfl (fun w hSw => ?_) hHeld ?_
            · (cases t <;> go_simp)
            try simp only [Act.put, List.setIfInBounds_toArray, List.set_cons_zero, List.set_cons_succ]
            refine take_val (v := ?_) 22 (some 47) rfl (by kernel_rfl) (by kernel_rfl) (by kernel_rfl) (fun _ _ _ h => h) rfl rfl (fun w hSw => ?_) hHeld ?_
            rotate_left
            · (go_simp; try with_reducible rfl)
            try simp only [Act.put, List.setIfInBounds_toArray, List.set_cons_zero, List.set_cons_succ]
            refine take_val (v := ?_) 23 (some 48) rfl (by kernel_rfl) (by kernel_rfl) (by kernel_rfl) (fun _ _ _ h => h) rfl rfl (fun w hSw => ?_) hHeld ?_
            rotate_left
            · (go_simp; try with_reducible rfl)
            try simp only [Act.put, List.setIfInBounds_toArray, List.set_cons_zero, List.set_cons_succ]
            refine take_val (v := ?_) 24 (some 49) rfl (by kernel_rfl) (by kernel_rfl) (by kernel_rfl) (fun _ _ _ h => h) rfl rfl (fun w hSw => ?_) hHeld ?_
            rotate_left
            · (go_simp; try with_reducible rfl)
            try simp only [Act.put, List.setIfInBounds_toArray, List.set_cons_zero, List.set_cons_succ]
            refine take_val (v := ?_) 26 (some 51) rfl (by kernel_rfl) (by kernel_rfl) (by kernel_rfl) (fun _ _ _ h => h) rfl rfl (fun w hSw => ?_) hHeld ?_
            rotate_left
            · (go_simp; try with_reducible rfl)
            try simp only [Act.put, List.setIfInBounds_toArray, List.set_cons_zero, List.set_cons_succ]
            refine wpAnyH_ready (rs := [25]) (by kernel_rfl) (by simp) ?_
            refine AllReadyH.cons (o := _) rfl (fun K hK => ?_) ?_
            ·
              go_simp
              refine (FromInt_s (c : Int) wc _).mono ?_
              rintro e x25 ⟨rfl, k⟩
              replace k2 := k2.trans1 k
              go_wp2_with fail
              refine hK.out _ _ (hHeld.trans1 k) (fun hHeld => ?_)
              clear hK K
              try simp only [Act.put, List.setIfInBounds_toArray, List.set_cons_zero, List.set_cons_succ]
              refine wpAnyH_ready (rs := [27]) (by kernel_rfl) (by simp) ?_
              refine AllReadyH.cons (o := _) rfl (fun K hK => ?_) ?_
              ·
                go_simp
                refine (FromInt_r c hc _).mono ?_
                rintro e x27 ⟨rfl, k⟩
                replace k2 := k2.trans1 k
                go_wp2_with fail
                refine hK.out _ _ (hHeld.trans1 k) (fun hHeld => ?_)
                clear hK K
                try simp only [Act.put, List.setIfInBounds_toArray, List.set_cons_zero, List.set_cons_succ]
                refine take_val (v := (.bool true)) 28 (some 53) rfl (by kernel_rfl) (by kernel_rfl) (by kernel_rfl) (fun _ _ _ h => h) rfl rfl (fun w hSw => ?_) hHeld ?_
                · (go_simp; try with_reducible rfl)
                try simp only [Act.put, List.setIfInBounds_toArray, List.set_cons_zero, List.set_cons_succ]
                refine take_val (v := ?_) 29 (some 54) rfl (by kernel_rfl) (by kernel_rfl) (by kernel_rfl) (fun _ _ _ h => h) rfl rfl (fun w hSw => ?_) hHeld ?_
                rotate_left
                · (go_simp; try with_reducible rfl)
                try simp only [Act.put, List.setIfInBounds_toArray, List.set_cons_zero, List.set_cons_succ]
                refine take_val (v := ?_) 30 (some 55) rfl (by kernel_rfl) (by kernel_rfl) (by kernel_rfl) (fun _ _ _ h => h) rfl rfl (fun w hSw => ?_) hHeld ?_
                rotate_left
                · (go_simp; try with_reducible rfl)
                try simp only [Act.put, List.setIfInBounds_toArray, List.set_cons_zero, List.set_cons_succ]
                refine wpAnyH_ready (rs := [31]) (by kernel_rfl) (by simp) ?_
                refine AllReadyH.cons (o := _) rfl (fun K hK => ?_) ?_
                ·
                  go_simp
                  refine (Intact_1 gb (n + 3) o lg lc mg mc xg xc (gvf f n) _ (by omega) (fun i _ => gvf_lt hf i) (bg.chg k2 (by simp)) (cell_chg cl k2) (cell_chg cr k2) (bo.chg k2 (by simp)) (bx.chg k2 (by simp))).mono ?_
                  rintro e x31 ⟨rfl, k⟩
                  replace k2 := k2.trans1 k
                  go_wp2_with fail
                  refine hK.out _ _ (hHeld.trans1 k) (fun hHeld => ?_)
                  clear hK K
                  try simp only [Act.put, List.setIfInBounds_toArray, List.set_cons_zero, List.set_cons_succ]
                  refine take_val (v := ?_) 32 (some 57) rfl (by kernel_rfl) (by kernel_rfl) (by kernel_rfl) (fun _ _ _ h => h) rfl rfl (fun w hSw => ?_) hHeld ?_
                  rotate_left
                  · (go_simp; try with_reducible rfl)
                  try simp only [Act.put, List.setIfInBounds_toArray, List.set_cons_zero, List.set_cons_succ]
                  refine take_val (v := ?_) 33 (some 58) rfl (by kernel_rfl) (by kernel_rfl) (by kernel_rfl) (fun _ _ _ h => h) rfl rfl (fun w hSw => ?_) hHeld ?_
                  rotate_left
                  · (go_simp; try with_reducible rfl)
                  try simp only [Act.put, List.setIfInBounds_toArray, List.set_cons_zero, List.set_cons_succ]
                  refine wpAnyH_ready (rs := [34]) (by kernel_rfl) (by simp) ?_
                  refine AllReadyH.cons (o := _) rfl (fun K hK => ?_) ?_
                  ·
                    go_simp
                    refine (works_true _).mono ?_
                    rintro e x34 ⟨rfl, k⟩
                    replace k2 := k2.trans1 k
                    go_wp2_with fail
                    refine hK.out _ _ (hHeld.trans1 k) (fun hHeld => ?_)
                    clear hK K
                    try simp only [Act.put, List.setIfInBounds_toArray, List.set_cons_zero, List.set_cons_succ]
                    refine take_val (v := ?_) 35 (some 60) rfl (by kernel_rfl) (by kernel_rfl) (by kernel_rfl) (fun _ _ _ h => h) rfl rfl (fun w hSw => ?_) hHeld ?_
                    rotate_left
                    · (go_simp; try with_reducible rfl)
                    try simp only [Act.put, List.setIfInBounds_toArray, List.set_cons_zero, List.set_cons_succ]
                    refine take_val (v := ?_) 36 (some 6) rfl (by kernel_rfl) (by kernel_rfl) (by kernel_rfl) (fun _ _ _ h => h) rfl rfl (fun w hSw => ?_) hHeld ?_
                    rotate_left
                    · (go_simp; try with_reducible rfl)
                    try simp only [Act.put, List.setIfInBounds_toArray, List.set_cons_zero, List.set_cons_succ]
                    refine wpAnyH_done (by kernel_rfl) ?_ _
                    go_wp2_with fail
                    go_ret
                    exact ⟨rfl, CC.trans1 hHeld⟩
                  exact AllReadyH.nil
                exact AllReadyH.nil
              exact AllReadyH.nil
            exact AllReadyH.nil
          exact AllReadyH.nil
        exact AllReadyH.nil
      exact AllReadyH.nil
    exact AllReadyH.nil
  exact AllReadyH.nil
end Go.Proofs.Ytcdgkhejbdlapaa
