/- The document's answer: root. -/
import Derived.Test.YtialljmkkichiaaRFun4
set_option linter.unusedVariables false
set_option linter.unusedSimpArgs false
set_option linter.unnecessarySimpa false
namespace Go.Proofs.Ytialljmkkichiaa
open Go.RowKit N

/-- The candidate, and the root. -/
def cr (a : Int) : Int := pw a 7237005577332262213973186563042994240829374041602535252466099000494570602494
def crq (a : Int) : Bool := eqf (cr a * cr a % P) (a % P)
def rtr (a : Int) : Int := ab (if crq a then cr a else cr a * S1 % P)
theorem ex8 : nb (bf (exn 253 / 2 ^ 3)) 0 32 = 7237005577332262213973186563042994240829374041602535252466099000494570602494 := by rw [nb_exp _ (ex_lt 253 3)]; decide +kernel

set_option maxHeartbeats 4000000 in
set_option maxRecDepth 100000 in
theorem root_true (a c m d v : Int) (ra : R256 a) (hc : Hid (pw a 7237005577332262213973186563042994240829374041602535252466099000494570602494 = c)) (rc : R256 c) (hm : Hid (c * c % P = m)) (hq : eqf m (a % P) = true) (hd : Hid (c * S1 % P = d)) (rdd : R256 d) (hv : Hid (ab c = v)) (w : World) :
    Calls Try.prog 100 #[fe a] w fun e w' => e = .returned (fe v) ∧ Chg w w' [] := by
  have hge := feGuard
  have F0 : Blk ((w.alloc (.cells (feC a) 24)).alloc (.cells z32 24)) w.heap.size (feC a) 24 := (Blk.new w (feC a) 24).alloc _
  have F2 : Blk ((w.alloc (.cells (feC a) 24)).alloc (.cells z32 24)) (w.heap.size + 1) z32 24 := by have h := Blk.new (w.alloc (.cells (feC a) 24)) z32 24; simpa using h
  have CC := ((Chg.refl w []).alloc (.cells (feC a) 24)).alloc (.cells z32 24)
  go_enter Try.func100, Try.ntmps100
  go_wp2_with fail
  generalize hv0 : ((w.alloc (.cells (feC a) 24)).alloc (.cells z32 24)) = v0 at F0 F2 CC
  try (change Code.wp _ _ _ _ ((w.alloc (.cells (feC a) 24)).alloc (.cells z32 24)); rw [hv0])
  clear hv0
  refine region_cut (fun a' w' => ∃ g3 gp : Nat, a' = ⟨#[fe a, .pointer (some ⟨w.heap.size, 0, none⟩), .pointer (some ⟨(w.heap.size + 1), 0, none⟩), .pointer (some ⟨g3, 0, none⟩), .agg (feC a), .slice (some ⟨gp, 0, none⟩) 32 32, fe c, undef, undef, undef, undef, undef, undef, undef, undef, undef, undef, undef], []⟩ ∧ v0.heap.size ≤ g3 ∧ Blk w' g3 (feC c) 24 ∧ Chg v0 w' []) ?_ ?_
  ·
    refine wp_region_held_drew (S := fun w' => Chg v0 w' []) (by kernel_rfl) ((Chg.refl v0 []).drew) (fun hHeld => ?_)
    refine take_load 0 (some 4) (feC a) rfl (by kernel_rfl) (by kernel_rfl) (by kernel_rfl) (fun _ _ _ h => h) rfl rfl 24 _ rfl w.heap.size rfl 24 _ (fun w h => F0.chg h (by simp)) Try.underlying24 rfl feInfo hHeld ?_
    try simp only [Act.put, List.setIfInBounds_toArray, List.set_cons_zero, List.set_cons_succ]
    refine wpAnyH_ready (rs := [1, 3]) (by kernel_rfl) (by simp) ?_
    refine AllReadyH.cons (o := _) rfl (fun K hK => ?_) ?_
    ·
      go_simp
      refine (exponent_r 253 3 (by decide) (by decide) _).mono ?_
      rintro e x1 ⟨gp, rfl, hgp, bg, k⟩
      go_wp2_with fail
      refine hK.out _ _ (hHeld.trans1 k) (fun hHeld => ?_)
      clear k
      clear hK K
      try simp only [Act.put, List.setIfInBounds_toArray, List.set_cons_zero, List.set_cons_succ]
      refine wpAnyH_ready (rs := [2, 3]) (by kernel_rfl) (by simp) ?_
      refine AllReadyH.cons (o := _) rfl (fun K hK => ?_) ?_
      ·
        go_simp
        refine (Power_rs a ra gp 0 32 32 (bf (exn 253 / 2 ^ 3)) (by decide) _ (Bs.ofBC bg (fun j _ => bf_lt _ j))).mono ?_
        rintro e x2 ⟨rfl, k⟩
        rw [ex8, hc.out]
        go_wp2_with fail
        refine hK.out _ _ (hHeld.trans1 k) (fun hHeld => ?_)
        replace bg := bg.chg k (by simp)
        clear k
        clear hK K
        try simp only [Act.put, List.setIfInBounds_toArray, List.set_cons_zero, List.set_cons_succ]
        refine wpAnyH_ready (rs := [3]) (by kernel_rfl) (by simp) ?_
        refine AllReadyH.cons (o := _) rfl (fun K hK => ?_) ?_
        ·
          go_simp
          have b7 : v0.heap.size ≤ x2.heap.size := by have h := hHeld.size; simpa using h
          have c7 : Blk (x2.alloc (.cells z32 24)) (x2.heap.size) z32 24 := by have h := Blk.new x2 z32 24; simpa using h
          refine hK.out _ _ (hHeld.alloc _) (fun hHeld => ?_)
          replace bg := bg.alloc (.cells z32 24)
          clear hK K
          try simp only [Act.put, List.setIfInBounds_toArray, List.set_cons_zero, List.set_cons_succ]
          refine wpAnyH_ready (rs := [4]) (by kernel_rfl) (by simp) ?_
          refine AllReadyH.cons (o := _) rfl (fun K hK => ?_) ?_
          ·
            rw [if_pos (by rfl)]
            refine wp_store_row 24 _ _ rfl (x2.heap.size) _ rfl rfl 24 _ c7 feInfo rfl (feC_one _) ?_
            refine hK.out _ _ (hHeld.setRowNew b7 _) (fun hHeld => ?_)
            replace c7 := c7.setRow (feC c)
            clear hK K
            try simp only [Act.put, List.setIfInBounds_toArray, List.set_cons_zero, List.set_cons_succ]
            refine wpAnyH_done (by kernel_rfl) ?_ _
            exact ⟨(x2.heap.size), gp, rfl, b7, c7, hHeld⟩
          exact AllReadyH.nil
        exact AllReadyH.nil
      refine AllReadyH.cons (o := _) rfl (fun K hK => ?_) ?_
      ·
        go_simp
        have b7 : v0.heap.size ≤ x1.heap.size := by have h := hHeld.size; simpa using h
        have c7 : Blk (x1.alloc (.cells z32 24)) (x1.heap.size) z32 24 := by have h := Blk.new x1 z32 24; simpa using h
        refine hK.out _ _ (hHeld.alloc _) (fun hHeld => ?_)
        replace bg := bg.alloc (.cells z32 24)
        clear hK K
        try simp only [Act.put, List.setIfInBounds_toArray, List.set_cons_zero, List.set_cons_succ]
        refine wpAnyH_ready (rs := [2]) (by kernel_rfl) (by simp) ?_
        refine AllReadyH.cons (o := _) rfl (fun K hK => ?_) ?_
        ·
          go_simp
          refine (Power_rs a ra gp 0 32 32 (bf (exn 253 / 2 ^ 3)) (by decide) _ (Bs.ofBC bg (fun j _ => bf_lt _ j))).mono ?_
          rintro e x3 ⟨rfl, k⟩
          rw [ex8, hc.out]
          go_wp2_with fail
          refine hK.out _ _ (hHeld.trans1 k) (fun hHeld => ?_)
          replace c7 := c7.chg k (by simp)
          replace bg := bg.chg k (by simp)
          clear k
          clear hK K
          try simp only [Act.put, List.setIfInBounds_toArray, List.set_cons_zero, List.set_cons_succ]
          refine wpAnyH_ready (rs := [4]) (by kernel_rfl) (by simp) ?_
          refine AllReadyH.cons (o := _) rfl (fun K hK => ?_) ?_
          ·
            rw [if_pos (by rfl)]
            refine wp_store_row 24 _ _ rfl (x1.heap.size) _ rfl rfl 24 _ c7 feInfo rfl (feC_one _) ?_
            refine hK.out _ _ (hHeld.setRowNew b7 _) (fun hHeld => ?_)
            replace c7 := c7.setRow (feC c)
            clear hK K
            try simp only [Act.put, List.setIfInBounds_toArray, List.set_cons_zero, List.set_cons_succ]
            refine wpAnyH_done (by kernel_rfl) ?_ _
            exact ⟨(x1.heap.size), gp, rfl, b7, c7, hHeld⟩
          exact AllReadyH.nil
        exact AllReadyH.nil
      exact AllReadyH.nil
    refine AllReadyH.cons (o := _) rfl (fun K hK => ?_) ?_
    ·
      go_simp
      have b7 : v0.heap.size ≤ v0.heap.size := by have h := hHeld.size; simpa using h
      have c7 : Blk (v0.drew.alloc (.cells z32 24)) (v0.heap.size) z32 24 := by have h := Blk.new v0.drew z32 24; simpa using h
      refine hK.out _ _ (hHeld.alloc _) (fun hHeld => ?_)
      clear hK K
      try simp only [Act.put, List.setIfInBounds_toArray, List.set_cons_zero, List.set_cons_succ]
      refine wpAnyH_ready (rs := [1]) (by kernel_rfl) (by simp) ?_
      refine AllReadyH.cons (o := _) rfl (fun K hK => ?_) ?_
      ·
        go_simp
        refine (exponent_r 253 3 (by decide) (by decide) _).mono ?_
        rintro e x4 ⟨gp, rfl, hgp, bg, k⟩
        go_wp2_with fail
        refine hK.out _ _ (hHeld.trans1 k) (fun hHeld => ?_)
        replace c7 := c7.chg k (by simp)
        clear k
        clear hK K
        try simp only [Act.put, List.setIfInBounds_toArray, List.set_cons_zero, List.set_cons_succ]
        refine wpAnyH_ready (rs := [2]) (by kernel_rfl) (by simp) ?_
        refine AllReadyH.cons (o := _) rfl (fun K hK => ?_) ?_
        ·
          go_simp
          refine (Power_rs a ra gp 0 32 32 (bf (exn 253 / 2 ^ 3)) (by decide) _ (Bs.ofBC bg (fun j _ => bf_lt _ j))).mono ?_
          rintro e x5 ⟨rfl, k⟩
          rw [ex8, hc.out]
          go_wp2_with fail
          refine hK.out _ _ (hHeld.trans1 k) (fun hHeld => ?_)
          replace c7 := c7.chg k (by simp)
          replace bg := bg.chg k (by simp)
          clear k
          clear hK K
          try simp only [Act.put, List.setIfInBounds_toArray, List.set_cons_zero, List.set_cons_succ]
          refine wpAnyH_ready (rs := [4]) (by kernel_rfl) (by simp) ?_
          refine AllReadyH.cons (o := _) rfl (fun K hK => ?_) ?_
          ·
            rw [if_pos (by rfl)]
            refine wp_store_row 24 _ _ rfl (v0.heap.size) _ rfl rfl 24 _ c7 feInfo rfl (feC_one _) ?_
            refine hK.out _ _ (hHeld.setRowNew b7 _) (fun hHeld => ?_)
            replace c7 := c7.setRow (feC c)
            clear hK K
            try simp only [Act.put, List.setIfInBounds_toArray, List.set_cons_zero, List.set_cons_succ]
            refine wpAnyH_done (by kernel_rfl) ?_ _
            exact ⟨(v0.heap.size), gp, rfl, b7, c7, hHeld⟩
          exact AllReadyH.nil
        exact AllReadyH.nil
      exact AllReadyH.nil
    exact AllReadyH.nil
  rintro a' z0 ⟨g3, gp, rfl, b3, F3, k⟩
  have sa : w.heap.size + 1 < v0.heap.size := F2.lt
  replace F0 := F0.chg k (by simp)
  replace F2 := F2.chg k (by simp)
  replace CC := CC.trans1 k
  clear k
  have l3 := F3.lt
  try go_wp2_with fail
  refine wp_region_held_drew (S := fun w' => Chg z0 w' []) (by kernel_rfl) ((Chg.refl z0 []).drew) (fun hHeld => ?_)
  refine take_load 0 (some 7) (feC c) rfl (by kernel_rfl) (by kernel_rfl) (by kernel_rfl) (fun _ _ _ h => h) rfl rfl 24 _ rfl g3 rfl 24 _ (fun w h => F3.chg h (by simp)) Try.underlying24 rfl (by first | exact feInfo | kernel_rfl) hHeld ?_
  try simp only [Act.put, List.setIfInBounds_toArray, List.set_cons_zero, List.set_cons_succ]
  refine take_load 2 (some 9) (feC a) rfl (by kernel_rfl) (by kernel_rfl) (by kernel_rfl) (fun _ _ _ h => h) rfl rfl 24 _ rfl w.heap.size rfl 24 _ (fun w h => F0.chg h (by simp)) Try.underlying24 rfl (by first | exact feInfo | kernel_rfl) hHeld ?_
  try simp only [Act.put, List.setIfInBounds_toArray, List.set_cons_zero, List.set_cons_succ]
  refine wpAnyH_ready (rs := [1]) (by kernel_rfl) (by simp) ?_
  refine AllReadyH.cons (o := _) rfl (fun K hK => ?_) ?_
  ·
    go_simp
    refine (Square_r c rc _).mono ?_
    rintro e q1 ⟨rfl, k⟩
    rw [hm.out]
    go_wp2_with fail
    refine hK.out _ _ (hHeld.trans1 k) (fun hHeld => ?_)
    clear hK K
    try simp only [Act.put, List.setIfInBounds_toArray, List.set_cons_zero, List.set_cons_succ]
    refine wpAnyH_ready (rs := [3]) (by kernel_rfl) (by simp) ?_
    refine AllReadyH.cons (o := _) rfl (fun K hK => ?_) ?_
    ·
      go_simp
      refine (Value_r a ra _).mono ?_
      rintro e q2 ⟨rfl, k⟩
      go_wp2_with fail
      refine hK.out _ _ (hHeld.trans1 k) (fun hHeld => ?_)
      clear hK K
      try simp only [Act.put, List.setIfInBounds_toArray, List.set_cons_zero, List.set_cons_succ]
      refine wpAnyH_ready (rs := [4]) (by kernel_rfl) (by simp) ?_
      refine AllReadyH.cons (o := _) rfl (fun K hK => ?_) ?_
      ·
        go_simp
        refine (Back_r (rd a) _).mono ?_
        rintro e q3 ⟨rfl, k⟩
        rw [rd_int a ra.1]
        go_wp2_with fail
        refine hK.out _ _ (hHeld.trans1 k) (fun hHeld => ?_)
        clear hK K
        try simp only [Act.put, List.setIfInBounds_toArray, List.set_cons_zero, List.set_cons_succ]
        refine take_val (v := (.bool false)) 5 (some 12) rfl (by kernel_rfl) (by kernel_rfl) (by kernel_rfl) (fun _ _ _ h => h) rfl rfl (fun w hSw => ?_) hHeld ?_
        · (go_simp; try with_reducible rfl)
        try simp only [Act.put, List.setIfInBounds_toArray, List.set_cons_zero, List.set_cons_succ]
        refine wpAnyH_done (by kernel_rfl) ?_ _
        replace F2 := F2.chg hHeld (by simp)
        replace F3 := F3.chg hHeld (by simp)
        replace CC := CC.trans1 hHeld
        clear hHeld
        go_wp2_with (refine wpList_load_row rfl 24 _ rfl g3 rfl 24 _ (0, 0) _ F3 Try.underlying24 rfl feInfo ?_)
        refine (Abs_r c rc _).mono ?_
        rintro e y9 ⟨rfl, k⟩
        rw [hv.out]
        replace F2 := F2.chg k (by simp)
        replace CC := CC.trans1 k
        clear k F3
        go_wp2_with (refine wpList_store_row rfl 24 _ _ rfl (w.heap.size + 1) _ rfl rfl 24 _ F2 feInfo rfl (feC_one _) ?_)
        exact bodyPost_ret (results_cell_row Try.results100 _ _ (w.heap.size + 1) 24 (feC v) (0, 0) _ rfl (Blk.setRow F2 _) Try.underlying24 rfl feInfo) rfl ⟨rfl, CC.setRowNew (by omega) _⟩
      exact AllReadyH.nil
    exact AllReadyH.nil
  exact AllReadyH.nil

set_option maxHeartbeats 4000000 in
set_option maxRecDepth 100000 in
theorem root_false (a c m d v : Int) (ra : R256 a) (hc : Hid (pw a 7237005577332262213973186563042994240829374041602535252466099000494570602494 = c)) (rc : R256 c) (hm : Hid (c * c % P = m)) (hq : eqf m (a % P) = false) (hd : Hid (c * S1 % P = d)) (rdd : R256 d) (hv : Hid (ab d = v)) (w : World) :
    Calls Try.prog 100 #[fe a] w fun e w' => e = .returned (fe v) ∧ Chg w w' [] := by
  have hge := feGuard
  have F0 : Blk ((w.alloc (.cells (feC a) 24)).alloc (.cells z32 24)) w.heap.size (feC a) 24 := (Blk.new w (feC a) 24).alloc _
  have F2 : Blk ((w.alloc (.cells (feC a) 24)).alloc (.cells z32 24)) (w.heap.size + 1) z32 24 := by have h := Blk.new (w.alloc (.cells (feC a) 24)) z32 24; simpa using h
  have CC := ((Chg.refl w []).alloc (.cells (feC a) 24)).alloc (.cells z32 24)
  go_enter Try.func100, Try.ntmps100
  go_wp2_with fail
  generalize hv0 : ((w.alloc (.cells (feC a) 24)).alloc (.cells z32 24)) = v0 at F0 F2 CC
  try (change Code.wp _ _ _ _ ((w.alloc (.cells (feC a) 24)).alloc (.cells z32 24)); rw [hv0])
  clear hv0
  refine region_cut (fun a' w' => ∃ g3 gp : Nat, a' = ⟨#[fe a, .pointer (some ⟨w.heap.size, 0, none⟩), .pointer (some ⟨(w.heap.size + 1), 0, none⟩), .pointer (some ⟨g3, 0, none⟩), .agg (feC a), .slice (some ⟨gp, 0, none⟩) 32 32, fe c, undef, undef, undef, undef, undef, undef, undef, undef, undef, undef, undef], []⟩ ∧ v0.heap.size ≤ g3 ∧ Blk w' g3 (feC c) 24 ∧ Chg v0 w' []) ?_ ?_
  ·
    refine wp_region_held_drew (S := fun w' => Chg v0 w' []) (by kernel_rfl) ((Chg.refl v0 []).drew) (fun hHeld => ?_)
    refine take_load 0 (some 4) (feC a) rfl (by kernel_rfl) (by kernel_rfl) (by kernel_rfl) (fun _ _ _ h => h) rfl rfl 24 _ rfl w.heap.size rfl 24 _ (fun w h => F0.chg h (by simp)) Try.underlying24 rfl feInfo hHeld ?_
    try simp only [Act.put, List.setIfInBounds_toArray, List.set_cons_zero, List.set_cons_succ]
    refine wpAnyH_ready (rs := [1, 3]) (by kernel_rfl) (by simp) ?_
    refine AllReadyH.cons (o := _) rfl (fun K hK => ?_) ?_
    ·
      go_simp
      refine (exponent_r 253 3 (by decide) (by decide) _).mono ?_
      rintro e x1 ⟨gp, rfl, hgp, bg, k⟩
      go_wp2_with fail
      refine hK.out _ _ (hHeld.trans1 k) (fun hHeld => ?_)
      clear k
      clear hK K
      try simp only [Act.put, List.setIfInBounds_toArray, List.set_cons_zero, List.set_cons_succ]
      refine wpAnyH_ready (rs := [2, 3]) (by kernel_rfl) (by simp) ?_
      refine AllReadyH.cons (o := _) rfl (fun K hK => ?_) ?_
      ·
        go_simp
        refine (Power_rs a ra gp 0 32 32 (bf (exn 253 / 2 ^ 3)) (by decide) _ (Bs.ofBC bg (fun j _ => bf_lt _ j))).mono ?_
        rintro e x2 ⟨rfl, k⟩
        rw [ex8, hc.out]
        go_wp2_with fail
        refine hK.out _ _ (hHeld.trans1 k) (fun hHeld => ?_)
        replace bg := bg.chg k (by simp)
        clear k
        clear hK K
        try simp only [Act.put, List.setIfInBounds_toArray, List.set_cons_zero, List.set_cons_succ]
        refine wpAnyH_ready (rs := [3]) (by kernel_rfl) (by simp) ?_
        refine AllReadyH.cons (o := _) rfl (fun K hK => ?_) ?_
        ·
          go_simp
          have b7 : v0.heap.size ≤ x2.heap.size := by have h := hHeld.size; simpa using h
          have c7 : Blk (x2.alloc (.cells z32 24)) (x2.heap.size) z32 24 := by have h := Blk.new x2 z32 24; simpa using h
          refine hK.out _ _ (hHeld.alloc _) (fun hHeld => ?_)
          replace bg := bg.alloc (.cells z32 24)
          clear hK K
          try simp only [Act.put, List.setIfInBounds_toArray, List.set_cons_zero, List.set_cons_succ]
          refine wpAnyH_ready (rs := [4]) (by kernel_rfl) (by simp) ?_
          refine AllReadyH.cons (o := _) rfl (fun K hK => ?_) ?_
          ·
            rw [if_pos (by rfl)]
            refine wp_store_row 24 _ _ rfl (x2.heap.size) _ rfl rfl 24 _ c7 feInfo rfl (feC_one _) ?_
            refine hK.out _ _ (hHeld.setRowNew b7 _) (fun hHeld => ?_)
            replace c7 := c7.setRow (feC c)
            clear hK K
            try simp only [Act.put, List.setIfInBounds_toArray, List.set_cons_zero, List.set_cons_succ]
            refine wpAnyH_done (by kernel_rfl) ?_ _
            exact ⟨(x2.heap.size), gp, rfl, b7, c7, hHeld⟩
          exact AllReadyH.nil
        exact AllReadyH.nil
      refine AllReadyH.cons (o := _) rfl (fun K hK => ?_) ?_
      ·
        go_simp
        have b7 : v0.heap.size ≤ x1.heap.size := by have h := hHeld.size; simpa using h
        have c7 : Blk (x1.alloc (.cells z32 24)) (x1.heap.size) z32 24 := by have h := Blk.new x1 z32 24; simpa using h
        refine hK.out _ _ (hHeld.alloc _) (fun hHeld => ?_)
        replace bg := bg.alloc (.cells z32 24)
        clear hK K
        try simp only [Act.put, List.setIfInBounds_toArray, List.set_cons_zero, List.set_cons_succ]
        refine wpAnyH_ready (rs := [2]) (by kernel_rfl) (by simp) ?_
        refine AllReadyH.cons (o := _) rfl (fun K hK => ?_) ?_
        ·
          go_simp
          refine (Power_rs a ra gp 0 32 32 (bf (exn 253 / 2 ^ 3)) (by decide) _ (Bs.ofBC bg (fun j _ => bf_lt _ j))).mono ?_
          rintro e x3 ⟨rfl, k⟩
          rw [ex8, hc.out]
          go_wp2_with fail
          refine hK.out _ _ (hHeld.trans1 k) (fun hHeld => ?_)
          replace c7 := c7.chg k (by simp)
          replace bg := bg.chg k (by simp)
          clear k
          clear hK K
          try simp only [Act.put, List.setIfInBounds_toArray, List.set_cons_zero, List.set_cons_succ]
          refine wpAnyH_ready (rs := [4]) (by kernel_rfl) (by simp) ?_
          refine AllReadyH.cons (o := _) rfl (fun K hK => ?_) ?_
          ·
            rw [if_pos (by rfl)]
            refine wp_store_row 24 _ _ rfl (x1.heap.size) _ rfl rfl 24 _ c7 feInfo rfl (feC_one _) ?_
            refine hK.out _ _ (hHeld.setRowNew b7 _) (fun hHeld => ?_)
            replace c7 := c7.setRow (feC c)
            clear hK K
            try simp only [Act.put, List.setIfInBounds_toArray, List.set_cons_zero, List.set_cons_succ]
            refine wpAnyH_done (by kernel_rfl) ?_ _
            exact ⟨(x1.heap.size), gp, rfl, b7, c7, hHeld⟩
          exact AllReadyH.nil
        exact AllReadyH.nil
      exact AllReadyH.nil
    refine AllReadyH.cons (o := _) rfl (fun K hK => ?_) ?_
    ·
      go_simp
      have b7 : v0.heap.size ≤ v0.heap.size := by have h := hHeld.size; simpa using h
      have c7 : Blk (v0.drew.alloc (.cells z32 24)) (v0.heap.size) z32 24 := by have h := Blk.new v0.drew z32 24; simpa using h
      refine hK.out _ _ (hHeld.alloc _) (fun hHeld => ?_)
      clear hK K
      try simp only [Act.put, List.setIfInBounds_toArray, List.set_cons_zero, List.set_cons_succ]
      refine wpAnyH_ready (rs := [1]) (by kernel_rfl) (by simp) ?_
      refine AllReadyH.cons (o := _) rfl (fun K hK => ?_) ?_
      ·
        go_simp
        refine (exponent_r 253 3 (by decide) (by decide) _).mono ?_
        rintro e x4 ⟨gp, rfl, hgp, bg, k⟩
        go_wp2_with fail
        refine hK.out _ _ (hHeld.trans1 k) (fun hHeld => ?_)
        replace c7 := c7.chg k (by simp)
        clear k
        clear hK K
        try simp only [Act.put, List.setIfInBounds_toArray, List.set_cons_zero, List.set_cons_succ]
        refine wpAnyH_ready (rs := [2]) (by kernel_rfl) (by simp) ?_
        refine AllReadyH.cons (o := _) rfl (fun K hK => ?_) ?_
        ·
          go_simp
          refine (Power_rs a ra gp 0 32 32 (bf (exn 253 / 2 ^ 3)) (by decide) _ (Bs.ofBC bg (fun j _ => bf_lt _ j))).mono ?_
          rintro e x5 ⟨rfl, k⟩
          rw [ex8, hc.out]
          go_wp2_with fail
          refine hK.out _ _ (hHeld.trans1 k) (fun hHeld => ?_)
          replace c7 := c7.chg k (by simp)
          replace bg := bg.chg k (by simp)
          clear k
          clear hK K
          try simp only [Act.put, List.setIfInBounds_toArray, List.set_cons_zero, List.set_cons_succ]
          refine wpAnyH_ready (rs := [4]) (by kernel_rfl) (by simp) ?_
          refine AllReadyH.cons (o := _) rfl (fun K hK => ?_) ?_
          ·
            rw [if_pos (by rfl)]
            refine wp_store_row 24 _ _ rfl (v0.heap.size) _ rfl rfl 24 _ c7 feInfo rfl (feC_one _) ?_
            refine hK.out _ _ (hHeld.setRowNew b7 _) (fun hHeld => ?_)
            replace c7 := c7.setRow (feC c)
            clear hK K
            try simp only [Act.put, List.setIfInBounds_toArray, List.set_cons_zero, List.set_cons_succ]
            refine wpAnyH_done (by kernel_rfl) ?_ _
            exact ⟨(v0.heap.size), gp, rfl, b7, c7, hHeld⟩
          exact AllReadyH.nil
        exact AllReadyH.nil
      exact AllReadyH.nil
    exact AllReadyH.nil
  rintro a' z0 ⟨g3, gp, rfl, b3, F3, k⟩
  have sa : w.heap.size + 1 < v0.heap.size := F2.lt
  replace F0 := F0.chg k (by simp)
  replace F2 := F2.chg k (by simp)
  replace CC := CC.trans1 k
  clear k
  have l3 := F3.lt
  try go_wp2_with fail
  refine wp_region_held_drew (S := fun w' => Chg z0 w' []) (by kernel_rfl) ((Chg.refl z0 []).drew) (fun hHeld => ?_)
  refine take_load 0 (some 7) (feC c) rfl (by kernel_rfl) (by kernel_rfl) (by kernel_rfl) (fun _ _ _ h => h) rfl rfl 24 _ rfl g3 rfl 24 _ (fun w h => F3.chg h (by simp)) Try.underlying24 rfl (by first | exact feInfo | kernel_rfl) hHeld ?_
  try simp only [Act.put, List.setIfInBounds_toArray, List.set_cons_zero, List.set_cons_succ]
  refine take_load 2 (some 9) (feC a) rfl (by kernel_rfl) (by kernel_rfl) (by kernel_rfl) (fun _ _ _ h => h) rfl rfl 24 _ rfl w.heap.size rfl 24 _ (fun w h => F0.chg h (by simp)) Try.underlying24 rfl (by first | exact feInfo | kernel_rfl) hHeld ?_
  try simp only [Act.put, List.setIfInBounds_toArray, List.set_cons_zero, List.set_cons_succ]
  refine wpAnyH_ready (rs := [1]) (by kernel_rfl) (by simp) ?_
  refine AllReadyH.cons (o := _) rfl (fun K hK => ?_) ?_
  ·
    go_simp
    refine (Square_r c rc _).mono ?_
    rintro e q1 ⟨rfl, k⟩
    rw [hm.out]
    go_wp2_with fail
    refine hK.out _ _ (hHeld.trans1 k) (fun hHeld => ?_)
    clear hK K
    try simp only [Act.put, List.setIfInBounds_toArray, List.set_cons_zero, List.set_cons_succ]
    refine wpAnyH_ready (rs := [3]) (by kernel_rfl) (by simp) ?_
    refine AllReadyH.cons (o := _) rfl (fun K hK => ?_) ?_
    ·
      go_simp
      refine (Value_r a ra _).mono ?_
      rintro e q2 ⟨rfl, k⟩
      go_wp2_with fail
      refine hK.out _ _ (hHeld.trans1 k) (fun hHeld => ?_)
      clear hK K
      try simp only [Act.put, List.setIfInBounds_toArray, List.set_cons_zero, List.set_cons_succ]
      refine wpAnyH_ready (rs := [4]) (by kernel_rfl) (by simp) ?_
      refine AllReadyH.cons (o := _) rfl (fun K hK => ?_) ?_
      ·
        go_simp
        refine (Back_r (rd a) _).mono ?_
        rintro e q3 ⟨rfl, k⟩
        rw [rd_int a ra.1]
        go_wp2_with fail
        refine hK.out _ _ (hHeld.trans1 k) (fun hHeld => ?_)
        clear hK K
        try simp only [Act.put, List.setIfInBounds_toArray, List.set_cons_zero, List.set_cons_succ]
        refine take_val (v := (.bool true)) 5 (some 12) rfl (by kernel_rfl) (by kernel_rfl) (by kernel_rfl) (fun _ _ _ h => h) rfl rfl (fun w hSw => ?_) hHeld ?_
        · (go_simp; try with_reducible rfl)
        try simp only [Act.put, List.setIfInBounds_toArray, List.set_cons_zero, List.set_cons_succ]
        refine wpAnyH_done (by kernel_rfl) ?_ _
        replace F2 := F2.chg hHeld (by simp)
        replace F3 := F3.chg hHeld (by simp)
        replace CC := CC.trans1 hHeld
        clear hHeld
        go_wp2_with fail
        replace F2 := F2.drew
        replace F3 := F3.drew
        refine wp_region_held_drew (S := fun w' => Chg w w' []) (by kernel_rfl) (CC.drew) (fun hHeld => ?_)
        refine wpAnyH_ready (rs := [0, 1]) (by kernel_rfl) (by simp) ?_
        refine AllReadyH.cons (o := _) rfl (fun K hK => ?_) ?_
        ·
          rw [if_pos (by rfl)]
          refine wp_load_row 24 _ rfl g3 rfl 24 _ (0, 0) _ F3 Try.underlying24 rfl feInfo ?_
          refine hK.out _ _ (hHeld) (fun hHeld => ?_)
          clear hK K
          try simp only [Act.put, List.setIfInBounds_toArray, List.set_cons_zero, List.set_cons_succ]
          refine wpAnyH_ready (rs := [1]) (by kernel_rfl) (by simp) ?_
          refine AllReadyH.cons (o := _) rfl (fun K hK => ?_) ?_
          ·
            go_simp
            refine (SqrtM1_r _).mono ?_
            rintro e z1 ⟨rfl, k⟩
            replace F2 := F2.chg k (by simp)
            replace F3 := F3.chg k (by simp)
            go_wp2_with fail
            refine hK.out _ _ (hHeld.trans1 k) (fun hHeld => ?_)
            clear hK K
            try simp only [Act.put, List.setIfInBounds_toArray, List.set_cons_zero, List.set_cons_succ]
            refine wpAnyH_ready (rs := [2]) (by kernel_rfl) (by simp) ?_
            refine AllReadyH.cons (o := _) rfl (fun K hK => ?_) ?_
            ·
              go_simp
              refine (Mul_r c S1 rc r256_S1 _).mono ?_
              rintro e z2 ⟨rfl, k⟩
              rw [hd.out]
              replace F2 := F2.chg k (by simp)
              replace F3 := F3.chg k (by simp)
              go_wp2_with fail
              refine hK.out _ _ (hHeld.trans1 k) (fun hHeld => ?_)
              clear hK K
              try simp only [Act.put, List.setIfInBounds_toArray, List.set_cons_zero, List.set_cons_succ]
              refine wpAnyH_ready (rs := [3]) (by kernel_rfl) (by simp) ?_
              refine AllReadyH.cons (o := _) rfl (fun K hK => ?_) ?_
              ·
                rw [if_pos (by rfl)]
                refine wp_store_row 24 _ _ rfl g3 _ rfl rfl 24 _ F3 feInfo rfl (feC_one _) ?_
                refine hK.out _ _ (hHeld.setRowNew (by omega) _) (fun hHeld => ?_)
                clear hK K
                try simp only [Act.put, List.setIfInBounds_toArray, List.set_cons_zero, List.set_cons_succ]
                refine wpAnyH_done (by kernel_rfl) ?_ _
                replace F2 := F2.setRowOther (show ¬ w.heap.size + 1 = g3 by omega) (feC d)
                replace F3 := F3.setRow (feC d)
                replace CC := hHeld
                clear hHeld
                go_wp2_with (refine wpList_load_row rfl 24 _ rfl g3 rfl 24 _ (0, 0) _ F3 Try.underlying24 rfl feInfo ?_)
                refine (Abs_r d rdd _).mono ?_
                rintro e y9 ⟨rfl, k⟩
                rw [hv.out]
                replace F2 := F2.chg k (by simp)
                replace CC := CC.trans1 k
                clear k F3
                go_wp2_with (refine wpList_store_row rfl 24 _ _ rfl (w.heap.size + 1) _ rfl rfl 24 _ F2 feInfo rfl (feC_one _) ?_)
                exact bodyPost_ret (results_cell_row Try.results100 _ _ (w.heap.size + 1) 24 (feC v) (0, 0) _ rfl (Blk.setRow F2 _) Try.underlying24 rfl feInfo) rfl ⟨rfl, CC.setRowNew (by omega) _⟩
              exact AllReadyH.nil
            exact AllReadyH.nil
          exact AllReadyH.nil
        refine AllReadyH.cons (o := _) rfl (fun K hK => ?_) ?_
        ·
          go_simp
          refine (SqrtM1_r _).mono ?_
          rintro e z1 ⟨rfl, k⟩
          replace F2 := F2.chg k (by simp)
          replace F3 := F3.chg k (by simp)
          go_wp2_with fail
          refine hK.out _ _ (hHeld.trans1 k) (fun hHeld => ?_)
          clear hK K
          try simp only [Act.put, List.setIfInBounds_toArray, List.set_cons_zero, List.set_cons_succ]
          refine wpAnyH_ready (rs := [0]) (by kernel_rfl) (by simp) ?_
          refine AllReadyH.cons (o := _) rfl (fun K hK => ?_) ?_
          ·
            rw [if_pos (by rfl)]
            refine wp_load_row 24 _ rfl g3 rfl 24 _ (0, 0) _ F3 Try.underlying24 rfl feInfo ?_
            refine hK.out _ _ (hHeld) (fun hHeld => ?_)
            clear hK K
            try simp only [Act.put, List.setIfInBounds_toArray, List.set_cons_zero, List.set_cons_succ]
            refine wpAnyH_ready (rs := [2]) (by kernel_rfl) (by simp) ?_
            refine AllReadyH.cons (o := _) rfl (fun K hK => ?_) ?_
            ·
              go_simp
              refine (Mul_r c S1 rc r256_S1 _).mono ?_
              rintro e z2 ⟨rfl, k⟩
              rw [hd.out]
              replace F2 := F2.chg k (by simp)
              replace F3 := F3.chg k (by simp)
              go_wp2_with fail
              refine hK.out _ _ (hHeld.trans1 k) (fun hHeld => ?_)
              clear hK K
              try simp only [Act.put, List.setIfInBounds_toArray, List.set_cons_zero, List.set_cons_succ]
              refine wpAnyH_ready (rs := [3]) (by kernel_rfl) (by simp) ?_
              refine AllReadyH.cons (o := _) rfl (fun K hK => ?_) ?_
              ·
                rw [if_pos (by rfl)]
                refine wp_store_row 24 _ _ rfl g3 _ rfl rfl 24 _ F3 feInfo rfl (feC_one _) ?_
                refine hK.out _ _ (hHeld.setRowNew (by omega) _) (fun hHeld => ?_)
                clear hK K
                try simp only [Act.put, List.setIfInBounds_toArray, List.set_cons_zero, List.set_cons_succ]
                refine wpAnyH_done (by kernel_rfl) ?_ _
                replace F2 := F2.setRowOther (show ¬ w.heap.size + 1 = g3 by omega) (feC d)
                replace F3 := F3.setRow (feC d)
                replace CC := hHeld
                clear hHeld
                go_wp2_with (refine wpList_load_row rfl 24 _ rfl g3 rfl 24 _ (0, 0) _ F3 Try.underlying24 rfl feInfo ?_)
                refine (Abs_r d rdd _).mono ?_
                rintro e y9 ⟨rfl, k⟩
                rw [hv.out]
                replace F2 := F2.chg k (by simp)
                replace CC := CC.trans1 k
                clear k F3
                go_wp2_with (refine wpList_store_row rfl 24 _ _ rfl (w.heap.size + 1) _ rfl rfl 24 _ F2 feInfo rfl (feC_one _) ?_)
                exact bodyPost_ret (results_cell_row Try.results100 _ _ (w.heap.size + 1) 24 (feC v) (0, 0) _ rfl (Blk.setRow F2 _) Try.underlying24 rfl feInfo) rfl ⟨rfl, CC.setRowNew (by omega) _⟩
              exact AllReadyH.nil
            exact AllReadyH.nil
          exact AllReadyH.nil
        exact AllReadyH.nil
      exact AllReadyH.nil
    exact AllReadyH.nil
  exact AllReadyH.nil

theorem r256_ab (x : Int) : R256 (ab x) := r256_mod _
theorem root_r (a : Int) (ra : R256 a) (w : World) : Calls Try.prog 100 #[fe a] w fun e w' => e = .returned (fe (rtr a)) ∧ Chg w w' [] := by
  cases h : crq a with
  | true => exact root_true a (cr a) _ _ (rtr a) ra rfl (r256_pw _ _) rfl h rfl (r256_mod _) (by show ab (cr a) = rtr a; unfold rtr; rw [h]; rfl) w
  | false => exact root_false a (cr a) _ _ (rtr a) ra rfl (r256_pw _ _) rfl h rfl (r256_mod _) (by show ab (cr a * S1 % P) = rtr a; unfold rtr; rw [h]; rfl) w
end Go.Proofs.Ytialljmkkichiaa
