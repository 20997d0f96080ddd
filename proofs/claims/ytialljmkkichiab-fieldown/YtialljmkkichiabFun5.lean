/- SqrtRatio. -/
import Derived.Test.YtialljmkkichiabFun4
set_option linter.unusedVariables false
set_option linter.unusedSimpArgs false
set_option linter.unnecessarySimpa false
namespace Go.Proofs.Ytialljmkkichiab
open Go.RowKit N

/-- Behind a region: a condition on the frame and the world, and no panic. -/
def CutQ (Φ : Act → World → Prop) : Exit → Act → World → Prop := fun x a w => match x with
  | .normal => Φ a w
  | _ => False
theorem region_cut {P : Program} {id : Nat} {ops : Array Oper} {b : Bool} {Q : Exit → Act → World → Prop} {a : Act} {w : World} (Φ : Act → World → Prop)
    (h1 : (Code.region id ops b).wp P (CutQ Φ) a w) (h2 : ∀ a' w', Φ a' w' → Q .normal a' w') : (Code.region id ops b).wp P Q a w :=
  Code.wp_mono (fun e a w h => by cases e <;> first | exact h2 _ _ h | exact (h : False).elim) h1
theorem results_cell_tmp {P : Program} {fn : Func} {p q : Tmp} {ty : TypeId} (h : fn.results = #[.cell p ty, .tmp q]) (tmps : Array Value) (w : World) (g : Nat) (t : TypeId) (cs : Array Value) (d : TypeDesc) (v : Value)
    (hp : tmps.getD p undef = .pointer (some ⟨g, 0, none⟩)) (hq : tmps.getD q undef = v) (hg : w.heap[g]? = some (.cells cs t (0, 0)))
    (hu : P.underlying ty = some d) (hd : (match d with | .struct _ | .array _ _ => true | _ => false) = true) (hi : (P.info? ty).map (·.size) = some cs.size) :
    (results fn tmps).run P w = .ok (.tuple #[.agg cs, v]) w := by
  have hp' : tmps[p]?.getD undef = .pointer (some ⟨g, 0, none⟩) := by simpa using hp
  have hq' : tmps[q]?.getD undef = v := by simpa using hq
  simp [results, h, hp', hq', asAddr, run_loadVar_row w g t ty cs (0, 0) d hg hu hd hi]

def gotf (u v : Int) : Int := v * (rc u v * rc u v % P) % P
def fixf (u v : Int) : Bool := eqf (gotf u v) (-u % P) || eqf (gotf u v) (S1 * (-u % P) % P)
def rootf (u v : Int) : Int := if fixf u v then S1 * rc u v % P else rc u v
def okf (u v : Int) : Bool := eqf (gotf u v) (u % P) || eqf (gotf u v) (-u % P)
theorem r256_rc (u v : Int) : R256 (rc u v) := r256_mod _
theorem r256_got (u v : Int) : R256 (gotf u v) := r256_mod _

set_option maxHeartbeats 16000000 in
set_option maxRecDepth 100000 in
theorem SqrtRatio_fe (u v : Int) (ru : R256 u) (rv : R256 v) (w : World) :
    Calls Try.prog 21 #[fe u, fe v] w fun e w' => e = .returned (.tuple #[fe (ab (rootf u v)), .bool (okf u v)]) ∧ Chg w w' [] := by
  have hge := feGuard
  have rr := r256_rc u v
  have rg := r256_got u v
  have F0 : Blk (((w.alloc (.cells (feC u) 23)).alloc (.cells (feC v) 23)).alloc (.cells z32 23)) w.heap.size (feC u) 23 := ((Blk.new w (feC u) 23).alloc _).alloc _
  have F1 : Blk (((w.alloc (.cells (feC u) 23)).alloc (.cells (feC v) 23)).alloc (.cells z32 23)) (w.heap.size + 1) (feC v) 23 := by have h := (Blk.new (w.alloc (.cells (feC u) 23)) (feC v) 23).alloc (.cells z32 23); simpa using h
  have F2 : Blk (((w.alloc (.cells (feC u) 23)).alloc (.cells (feC v) 23)).alloc (.cells z32 23)) (w.heap.size + 1 + 1) z32 23 := by have h := Blk.new ((w.alloc (.cells (feC u) 23)).alloc (.cells (feC v) 23)) z32 23; simpa using h
  have C0 : Chg w (((w.alloc (.cells (feC u) 23)).alloc (.cells (feC v) 23)).alloc (.cells z32 23)) [] := (((Chg.refl w []).alloc (.cells (feC u) 23)).alloc (.cells (feC v) 23)).alloc (.cells z32 23)
  go_enter Try.func21, Try.ntmps21
  go_wp2_with (first | (refine wpList_load_row rfl 23 _ rfl w.heap.size rfl 23 _ (0, 0) _ F0 Try.underlying23 rfl feInfo ?_) | (refine wpList_load_row rfl 23 _ rfl (w.heap.size + 1) rfl 23 _ (0, 0) _ F1 Try.underlying23 rfl feInfo ?_))
  refine (rootCandidate_fe u v ru rv _).mono ?_
  rintro e v1 ⟨rfl, k1⟩
  have A0 := F0.chg k1 (by simp)
  have A1 := F1.chg k1 (by simp)
  have A2 := F2.chg k1 (by simp)
  have CC := C0.trans1 k1
  have szz := k1.size
  simp at szz
  clear F0 F1 F2 C0 k1
  have A6 : Blk (v1.alloc (.cells z32 23)) v1.heap.size z32 23 := Blk.new v1 z32 23
  go_wp2_with (refine wpList_store_row rfl 23 _ _ rfl v1.heap.size _ rfl rfl 23 _ A6 feInfo rfl (feC_one _) ?_)
  obtain ⟨g6, hg6⟩ : ∃ g, g = v1.heap.size := ⟨_, rfl⟩
  have B0 : Blk ((v1.alloc (.cells z32 23)).setRow v1.heap.size (feC (rc u v))) w.heap.size (feC u) 23 := (A0.alloc _).setRowOther (by omega) _
  have B1 : Blk ((v1.alloc (.cells z32 23)).setRow v1.heap.size (feC (rc u v))) (w.heap.size + 1) (feC v) 23 := (A1.alloc _).setRowOther (by omega) _
  have B2 : Blk ((v1.alloc (.cells z32 23)).setRow v1.heap.size (feC (rc u v))) (w.heap.size + 1 + 1) z32 23 := (A2.alloc _).setRowOther (by omega) _
  have B6 : Blk ((v1.alloc (.cells z32 23)).setRow v1.heap.size (feC (rc u v))) v1.heap.size (feC (rc u v)) 23 := A6.setRow _
  have CB : Chg w ((v1.alloc (.cells z32 23)).setRow v1.heap.size (feC (rc u v))) [] := (CC.alloc (.cells z32 23)).setRowNew CC.size _
  generalize hv2 : (v1.alloc (.cells z32 23)).setRow v1.heap.size (feC (rc u v)) = v2 at B0 B1 B2 B6 CB
  change Code.wp _ _ _ _ ((v1.alloc (.cells z32 23)).setRow v1.heap.size (feC (rc u v)))
  rw [hv2]
  clear hv2 A0 A1 A2 A6 CC
  rw [← hg6] at B6 szz ⊢
  clear hg6 v1
  have h6 := B6.lt
  have h2 := B2.lt
  refine region_cut (fun a' w' => ∃ g7 g8, a' = ⟨#[fe u, fe v, .pointer (some ⟨w.heap.size, 0, none⟩), .pointer (some ⟨(w.heap.size + 1), 0, none⟩), .pointer (some ⟨(w.heap.size + 1 + 1), 0, none⟩), .bool false, .pointer (some ⟨g6, 0, none⟩), .pointer (some ⟨g7, 0, none⟩), .pointer (some ⟨g8, 0, none⟩), .agg (feC u), .agg (feC v), fe (rc u v), .agg (feC v), .agg (feC (rc u v)), fe ((rc u v) * (rc u v) % P), fe (gotf u v), .agg (feC u), fe (-u % P), undef, undef, undef, undef, undef, undef, undef, undef, undef, undef, undef, undef, undef, undef, undef, undef, undef, undef, undef, undef, undef, undef, undef, undef], []⟩ ∧ v2.heap.size ≤ g7 ∧ v2.heap.size ≤ g8 ∧ g7 ≠ g8 ∧ Blk w' g7 (feC (gotf u v)) 23 ∧ Blk w' g8 (feC (-u % P)) 23 ∧ Chg v2 w' []) ?_ ?_
  ·
    refine wp_region_held_drew (S := fun w' => Chg v2 w' []) (by kernel_rfl) ((Chg.refl v2 []).drew) (fun hHeld => ?_)
    refine take_load 0 (some 12) (feC v) rfl (by kernel_rfl) (by kernel_rfl) (by kernel_rfl) (fun _ _ _ h => h) rfl rfl 23 _ rfl (w.heap.size + 1) rfl 23 _ (fun w h => B1.chg h (by simp)) Try.underlying23 rfl feInfo hHeld ?_
    try simp only [Act.put, List.setIfInBounds_toArray, List.set_cons_zero, List.set_cons_succ]
    refine take_load 1 (some 13) (feC (rc u v)) rfl (by kernel_rfl) (by kernel_rfl) (by kernel_rfl) (fun _ _ _ h => h) rfl rfl 23 _ rfl g6 rfl 23 _ (fun w h => B6.chg h (by simp)) Try.underlying23 rfl feInfo hHeld ?_
    try simp only [Act.put, List.setIfInBounds_toArray, List.set_cons_zero, List.set_cons_succ]
    refine take_load 4 (some 16) (feC u) rfl (by kernel_rfl) (by kernel_rfl) (by kernel_rfl) (fun _ _ _ h => h) rfl rfl 23 _ rfl w.heap.size rfl 23 _ (fun w h => B0.chg h (by simp)) Try.underlying23 rfl feInfo hHeld ?_
    try simp only [Act.put, List.setIfInBounds_toArray, List.set_cons_zero, List.set_cons_succ]
    refine wpAnyH_ready (rs := [2, 6, 7]) (by kernel_rfl) (by simp) ?_
    refine AllReadyH.cons (o := _) rfl (fun K hK => ?_) ?_
    ·
      go_simp
      refine (Square_fe (rc u v) rr _).mono ?_
      rintro e x1 ⟨rfl, k⟩
      go_wp2_with fail
      refine hK.out _ _ (hHeld.trans1 k) (fun hHeld => ?_)
      clear k
      clear hK K
      try simp only [Act.put, List.setIfInBounds_toArray, List.set_cons_zero, List.set_cons_succ]
      refine wpAnyH_ready (rs := [3, 6, 7]) (by kernel_rfl) (by simp) ?_
      refine AllReadyH.cons (o := _) rfl (fun K hK => ?_) ?_
      ·
        go_simp
        refine (Mul_fe v ((rc u v) * (rc u v) % P) rv (r256_mod _) _).mono ?_
        rintro e x2 ⟨rfl, k⟩
        go_wp2_with fail
        refine hK.out _ _ (hHeld.trans1 k) (fun hHeld => ?_)
        clear k
        clear hK K
        try simp only [Act.put, List.setIfInBounds_toArray, List.set_cons_zero, List.set_cons_succ]
        refine wpAnyH_ready (rs := [5, 6, 7]) (by kernel_rfl) (by simp) ?_
        refine AllReadyH.cons (o := _) rfl (fun K hK => ?_) ?_
        ·
          go_simp
          refine (Neg_fe u ru _).mono ?_
          rintro e x3 ⟨rfl, k⟩
          go_wp2_with fail
          refine hK.out _ _ (hHeld.trans1 k) (fun hHeld => ?_)
          clear k
          clear hK K
          try simp only [Act.put, List.setIfInBounds_toArray, List.set_cons_zero, List.set_cons_succ]
          refine wpAnyH_ready (rs := [6, 7]) (by kernel_rfl) (by simp) ?_
          refine AllReadyH.cons (o := _) rfl (fun K hK => ?_) ?_
          ·
            go_simp
            have b7 : v2.heap.size ≤ x3.heap.size := by have h := hHeld.size; simpa using h
            have c7 : Blk (x3.alloc (.cells z32 23)) (x3.heap.size) z32 23 := by have h := Blk.new x3 z32 23; simpa using h
            refine hK.out _ _ (hHeld.alloc _) (fun hHeld => ?_)
            clear hK K
            try simp only [Act.put, List.setIfInBounds_toArray, List.set_cons_zero, List.set_cons_succ]
            refine wpAnyH_ready (rs := [7]) (by kernel_rfl) (by simp) ?_
            refine AllReadyH.cons (o := _) rfl (fun K hK => ?_) ?_
            ·
              go_simp
              have b8 : v2.heap.size ≤ x3.heap.size + 1 := by have h := hHeld.size; simpa using h
              have c8 : Blk ((x3.alloc (.cells z32 23)).alloc (.cells z32 23)) (x3.heap.size + 1) z32 23 := by have h := Blk.new (x3.alloc (.cells z32 23)) z32 23; simpa using h
              have ne78 : (x3.heap.size) ≠ x3.heap.size + 1 := by have h := c7.lt; first | omega | (simp at h; omega)
              replace c7 : Blk ((x3.alloc (.cells z32 23)).alloc (.cells z32 23)) ((x3.heap.size)) z32 23 := c7.alloc _
              refine hK.out _ _ (hHeld.alloc _) (fun hHeld => ?_)
              clear hK K
              try simp only [Act.put, List.setIfInBounds_toArray, List.set_cons_zero, List.set_cons_succ]
              refine wpAnyH_ready (rs := [8]) (by kernel_rfl) (by simp) ?_
              refine AllReadyH.cons (o := _) rfl (fun K hK => ?_) ?_
              ·
                rw [if_pos (by rfl)]
                refine wp_store_row 23 _ _ rfl (x3.heap.size) _ rfl rfl 23 _ c7 feInfo rfl (feC_one _) ?_
                refine hK.out _ _ (hHeld.setRowNew b7 _) (fun hHeld => ?_)
                replace c8 := c8.setRowOther (Ne.symm ne78) (feC (gotf u v))
                replace c7 := c7.setRow (feC (gotf u v))
                clear hK K
                try simp only [Act.put, List.setIfInBounds_toArray, List.set_cons_zero, List.set_cons_succ]
                refine wpAnyH_ready (rs := [9]) (by kernel_rfl) (by simp) ?_
                refine AllReadyH.cons (o := _) rfl (fun K hK => ?_) ?_
                ·
                  rw [if_pos (by rfl)]
                  refine wp_store_row 23 _ _ rfl (x3.heap.size + 1) _ rfl rfl 23 _ c8 feInfo rfl (feC_one _) ?_
                  refine hK.out _ _ (hHeld.setRowNew b8 _) (fun hHeld => ?_)
                  replace c7 := c7.setRowOther ne78 (feC (-u % P))
                  replace c8 := c8.setRow (feC (-u % P))
                  clear hK K
                  try simp only [Act.put, List.setIfInBounds_toArray, List.set_cons_zero, List.set_cons_succ]
                  refine wpAnyH_done (by kernel_rfl) ?_ _
                  exact ⟨(x3.heap.size), (x3.heap.size + 1), rfl, b7, b8, ne78, c7, c8, hHeld⟩
                exact AllReadyH.nil
              exact AllReadyH.nil
            exact AllReadyH.nil
          refine AllReadyH.cons (o := _) rfl (fun K hK => ?_) ?_
          ·
            go_simp
            have b8 : v2.heap.size ≤ x3.heap.size := by have h := hHeld.size; simpa using h
            have c8 : Blk (x3.alloc (.cells z32 23)) (x3.heap.size) z32 23 := by have h := Blk.new x3 z32 23; simpa using h
            refine hK.out _ _ (hHeld.alloc _) (fun hHeld => ?_)
            clear hK K
            try simp only [Act.put, List.setIfInBounds_toArray, List.set_cons_zero, List.set_cons_succ]
            refine wpAnyH_ready (rs := [6]) (by kernel_rfl) (by simp) ?_
            refine AllReadyH.cons (o := _) rfl (fun K hK => ?_) ?_
            ·
              go_simp
              have b7 : v2.heap.size ≤ x3.heap.size + 1 := by have h := hHeld.size; simpa using h
              have c7 : Blk ((x3.alloc (.cells z32 23)).alloc (.cells z32 23)) (x3.heap.size + 1) z32 23 := by have h := Blk.new (x3.alloc (.cells z32 23)) z32 23; simpa using h
              have ne78 : (x3.heap.size) ≠ x3.heap.size + 1 := by have h := c8.lt; first | omega | (simp at h; omega)
              replace c8 : Blk ((x3.alloc (.cells z32 23)).alloc (.cells z32 23)) ((x3.heap.size)) z32 23 := c8.alloc _
              refine hK.out _ _ (hHeld.alloc _) (fun hHeld => ?_)
              clear hK K
              try simp only [Act.put, List.setIfInBounds_toArray, List.set_cons_zero, List.set_cons_succ]
              refine wpAnyH_ready (rs := [8]) (by kernel_rfl) (by simp) ?_
              refine AllReadyH.cons (o := _) rfl (fun K hK => ?_) ?_
              ·
                rw [if_pos (by rfl)]
                refine wp_store_row 23 _ _ rfl (x3.heap.size + 1) _ rfl rfl 23 _ c7 feInfo rfl (feC_one _) ?_
                refine hK.out _ _ (hHeld.setRowNew b7 _) (fun hHeld => ?_)
                replace c8 := c8.setRowOther ne78 (feC (gotf u v))
                replace c7 := c7.setRow (feC (gotf u v))
                clear hK K
                try simp only [Act.put, List.setIfInBounds_toArray, List.set_cons_zero, List.set_cons_succ]
                refine wpAnyH_ready (rs := [9]) (by kernel_rfl) (by simp) ?_
                refine AllReadyH.cons (o := _) rfl (fun K hK => ?_) ?_
                ·
                  rw [if_pos (by rfl)]
                  refine wp_store_row 23 _ _ rfl (x3.heap.size) _ rfl rfl 23 _ c8 feInfo rfl (feC_one _) ?_
                  refine hK.out _ _ (hHeld.setRowNew b8 _) (fun hHeld => ?_)
                  replace c7 := c7.setRowOther (Ne.symm ne78) (feC (-u % P))
                  replace c8 := c8.setRow (feC (-u % P))
                  clear hK K
                  try simp only [Act.put, List.setIfInBounds_toArray, List.set_cons_zero, List.set_cons_succ]
                  refine wpAnyH_done (by kernel_rfl) ?_ _
                  exact ⟨(x3.heap.size + 1), (x3.heap.size), rfl, b7, b8, (Ne.symm ne78), c7, c8, hHeld⟩
                exact AllReadyH.nil
              exact AllReadyH.nil
            exact AllReadyH.nil
          exact AllReadyH.nil
        refine AllReadyH.cons (o := _) rfl (fun K hK => ?_) ?_
        ·
          go_simp
          have b7 : v2.heap.size ≤ x2.heap.size := by have h := hHeld.size; simpa using h
          have c7 : Blk (x2.alloc (.cells z32 23)) (x2.heap.size) z32 23 := by have h := Blk.new x2 z32 23; simpa using h
          refine hK.out _ _ (hHeld.alloc _) (fun hHeld => ?_)
          clear hK K
          try simp only [Act.put, List.setIfInBounds_toArray, List.set_cons_zero, List.set_cons_succ]
          refine wpAnyH_ready (rs := [5, 7]) (by kernel_rfl) (by simp) ?_
          refine AllReadyH.cons (o := _) rfl (fun K hK => ?_) ?_
          ·
            go_simp
            refine (Neg_fe u ru _).mono ?_
            rintro e x4 ⟨rfl, k⟩
            go_wp2_with fail
            refine hK.out _ _ (hHeld.trans1 k) (fun hHeld => ?_)
            replace c7 := c7.chg k (by simp)
            clear k
            clear hK K
            try simp only [Act.put, List.setIfInBounds_toArray, List.set_cons_zero, List.set_cons_succ]
            refine wpAnyH_ready (rs := [7]) (by kernel_rfl) (by simp) ?_
            refine AllReadyH.cons (o := _) rfl (fun K hK => ?_) ?_
            ·
              go_simp
              have b8 : v2.heap.size ≤ x4.heap.size := by have h := hHeld.size; simpa using h
              have c8 : Blk (x4.alloc (.cells z32 23)) (x4.heap.size) z32 23 := by have h := Blk.new x4 z32 23; simpa using h
              have ne78 : (x2.heap.size) ≠ x4.heap.size := by have h := c7.lt; first | omega | (simp at h; omega)
              replace c7 : Blk (x4.alloc (.cells z32 23)) ((x2.heap.size)) z32 23 := c7.alloc _
              refine hK.out _ _ (hHeld.alloc _) (fun hHeld => ?_)
              clear hK K
              try simp only [Act.put, List.setIfInBounds_toArray, List.set_cons_zero, List.set_cons_succ]
              refine wpAnyH_ready (rs := [8]) (by kernel_rfl) (by simp) ?_
              refine AllReadyH.cons (o := _) rfl (fun K hK => ?_) ?_
              ·
                rw [if_pos (by rfl)]
                refine wp_store_row 23 _ _ rfl (x2.heap.size) _ rfl rfl 23 _ c7 feInfo rfl (feC_one _) ?_
                refine hK.out _ _ (hHeld.setRowNew b7 _) (fun hHeld => ?_)
                replace c8 := c8.setRowOther (Ne.symm ne78) (feC (gotf u v))
                replace c7 := c7.setRow (feC (gotf u v))
                clear hK K
                try simp only [Act.put, List.setIfInBounds_toArray, List.set_cons_zero, List.set_cons_succ]
                refine wpAnyH_ready (rs := [9]) (by kernel_rfl) (by simp) ?_
                refine AllReadyH.cons (o := _) rfl (fun K hK => ?_) ?_
                ·
                  rw [if_pos (by rfl)]
                  refine wp_store_row 23 _ _ rfl (x4.heap.size) _ rfl rfl 23 _ c8 feInfo rfl (feC_one _) ?_
                  refine hK.out _ _ (hHeld.setRowNew b8 _) (fun hHeld => ?_)
                  replace c7 := c7.setRowOther ne78 (feC (-u % P))
                  replace c8 := c8.setRow (feC (-u % P))
                  clear hK K
                  try simp only [Act.put, List.setIfInBounds_toArray, List.set_cons_zero, List.set_cons_succ]
                  refine wpAnyH_done (by kernel_rfl) ?_ _
                  exact ⟨(x2.heap.size), (x4.heap.size), rfl, b7, b8, ne78, c7, c8, hHeld⟩
                exact AllReadyH.nil
              exact AllReadyH.nil
            exact AllReadyH.nil
          refine AllReadyH.cons (o := _) rfl (fun K hK => ?_) ?_
          ·
            go_simp
            have b8 : v2.heap.size ≤ x2.heap.size + 1 := by have h := hHeld.size; simpa using h
            have c8 : Blk ((x2.alloc (.cells z32 23)).alloc (.cells z32 23)) (x2.heap.size + 1) z32 23 := by have h := Blk.new (x2.alloc (.cells z32 23)) z32 23; simpa using h
            have ne78 : (x2.heap.size) ≠ x2.heap.size + 1 := by have h := c7.lt; first | omega | (simp at h; omega)
            replace c7 : Blk ((x2.alloc (.cells z32 23)).alloc (.cells z32 23)) ((x2.heap.size)) z32 23 := c7.alloc _
            refine hK.out _ _ (hHeld.alloc _) (fun hHeld => ?_)
            clear hK K
            try simp only [Act.put, List.setIfInBounds_toArray, List.set_cons_zero, List.set_cons_succ]
            refine wpAnyH_ready (rs := [5]) (by kernel_rfl) (by simp) ?_
            refine AllReadyH.cons (o := _) rfl (fun K hK => ?_) ?_
            ·
              go_simp
              refine (Neg_fe u ru _).mono ?_
              rintro e x5 ⟨rfl, k⟩
              go_wp2_with fail
              refine hK.out _ _ (hHeld.trans1 k) (fun hHeld => ?_)
              replace c7 := c7.chg k (by simp)
              replace c8 := c8.chg k (by simp)
              clear k
              clear hK K
              try simp only [Act.put, List.setIfInBounds_toArray, List.set_cons_zero, List.set_cons_succ]
              refine wpAnyH_ready (rs := [8]) (by kernel_rfl) (by simp) ?_
              refine AllReadyH.cons (o := _) rfl (fun K hK => ?_) ?_
              ·
                rw [if_pos (by rfl)]
                refine wp_store_row 23 _ _ rfl (x2.heap.size) _ rfl rfl 23 _ c7 feInfo rfl (feC_one _) ?_
                refine hK.out _ _ (hHeld.setRowNew b7 _) (fun hHeld => ?_)
                replace c8 := c8.setRowOther (Ne.symm ne78) (feC (gotf u v))
                replace c7 := c7.setRow (feC (gotf u v))
                clear hK K
                try simp only [Act.put, List.setIfInBounds_toArray, List.set_cons_zero, List.set_cons_succ]
                refine wpAnyH_ready (rs := [9]) (by kernel_rfl) (by simp) ?_
                refine AllReadyH.cons (o := _) rfl (fun K hK => ?_) ?_
                ·
                  rw [if_pos (by rfl)]
                  refine wp_store_row 23 _ _ rfl (x2.heap.size + 1) _ rfl rfl 23 _ c8 feInfo rfl (feC_one _) ?_
                  refine hK.out _ _ (hHeld.setRowNew b8 _) (fun hHeld => ?_)
                  replace c7 := c7.setRowOther ne78 (feC (-u % P))
                  replace c8 := c8.setRow (feC (-u % P))
                  clear hK K
                  try simp only [Act.put, List.setIfInBounds_toArray, List.set_cons_zero, List.set_cons_succ]
                  refine wpAnyH_done (by kernel_rfl) ?_ _
                  exact ⟨(x2.heap.size), (x2.heap.size + 1), rfl, b7, b8, ne78, c7, c8, hHeld⟩
                exact AllReadyH.nil
              exact AllReadyH.nil
            exact AllReadyH.nil
          exact AllReadyH.nil
        refine AllReadyH.cons (o := _) rfl (fun K hK => ?_) ?_
        ·
          go_simp
          have b8 : v2.heap.size ≤ x2.heap.size := by have h := hHeld.size; simpa using h
          have c8 : Blk (x2.alloc (.cells z32 23)) (x2.heap.size) z32 23 := by have h := Blk.new x2 z32 23; simpa using h
          refine hK.out _ _ (hHeld.alloc _) (fun hHeld => ?_)
          clear hK K
          try simp only [Act.put, List.setIfInBounds_toArray, List.set_cons_zero, List.set_cons_succ]
          refine wpAnyH_ready (rs := [5, 6]) (by kernel_rfl) (by simp) ?_
          refine AllReadyH.cons (o := _) rfl (fun K hK => ?_) ?_
          ·
            go_simp
            refine (Neg_fe u ru _).mono ?_
            rintro e x6 ⟨rfl, k⟩
            go_wp2_with fail
            refine hK.out _ _ (hHeld.trans1 k) (fun hHeld => ?_)
            replace c8 := c8.chg k (by simp)
            clear k
            clear hK K
            try simp only [Act.put, List.setIfInBounds_toArray, List.set_cons_zero, List.set_cons_succ]
            refine wpAnyH_ready (rs := [6]) (by kernel_rfl) (by simp) ?_
            refine AllReadyH.cons (o := _) rfl (fun K hK => ?_) ?_
            ·
              go_simp
              have b7 : v2.heap.size ≤ x6.heap.size := by have h := hHeld.size; simpa using h
              have c7 : Blk (x6.alloc (.cells z32 23)) (x6.heap.size) z32 23 := by have h := Blk.new x6 z32 23; simpa using h
              have ne78 : (x2.heap.size) ≠ x6.heap.size := by have h := c8.lt; first | omega | (simp at h; omega)
              replace c8 : Blk (x6.alloc (.cells z32 23)) ((x2.heap.size)) z32 23 := c8.alloc _
              refine hK.out _ _ (hHeld.alloc _) (fun hHeld => ?_)
              clear hK K
              try simp only [Act.put, List.setIfInBounds_toArray, List.set_cons_zero, List.set_cons_succ]
              refine wpAnyH_ready (rs := [8]) (by kernel_rfl) (by simp) ?_
              refine AllReadyH.cons (o := _) rfl (fun K hK => ?_) ?_
              ·
                rw [if_pos (by rfl)]
                refine wp_store_row 23 _ _ rfl (x6.heap.size) _ rfl rfl 23 _ c7 feInfo rfl (feC_one _) ?_
                refine hK.out _ _ (hHeld.setRowNew b7 _) (fun hHeld => ?_)
                replace c8 := c8.setRowOther ne78 (feC (gotf u v))
                replace c7 := c7.setRow (feC (gotf u v))
                clear hK K
                try simp only [Act.put, List.setIfInBounds_toArray, List.set_cons_zero, List.set_cons_succ]
                refine wpAnyH_ready (rs := [9]) (by kernel_rfl) (by simp) ?_
                refine AllReadyH.cons (o := _) rfl (fun K hK => ?_) ?_
                ·
                  rw [if_pos (by rfl)]
                  refine wp_store_row 23 _ _ rfl (x2.heap.size) _ rfl rfl 23 _ c8 feInfo rfl (feC_one _) ?_
                  refine hK.out _ _ (hHeld.setRowNew b8 _) (fun hHeld => ?_)
                  replace c7 := c7.setRowOther (Ne.symm ne78) (feC (-u % P))
                  replace c8 := c8.setRow (feC (-u % P))
                  clear hK K
                  try simp only [Act.put, List.setIfInBounds_toArray, List.set_cons_zero, List.set_cons_succ]
                  refine wpAnyH_done (by kernel_rfl) ?_ _
                  exact ⟨(x6.heap.size), (x2.heap.size), rfl, b7, b8, (Ne.symm ne78), c7, c8, hHeld⟩
                exact AllReadyH.nil
              exact AllReadyH.nil
            exact AllReadyH.nil
          refine AllReadyH.cons (o := _) rfl (fun K hK => ?_) ?_
          ·
            go_simp
            have b7 : v2.heap.size ≤ x2.heap.size + 1 := by have h := hHeld.size; simpa using h
            have c7 : Blk ((x2.alloc (.cells z32 23)).alloc (.cells z32 23)) (x2.heap.size + 1) z32 23 := by have h := Blk.new (x2.alloc (.cells z32 23)) z32 23; simpa using h
            have ne78 : (x2.heap.size) ≠ x2.heap.size + 1 := by have h := c8.lt; first | omega | (simp at h; omega)
            replace c8 : Blk ((x2.alloc (.cells z32 23)).alloc (.cells z32 23)) ((x2.heap.size)) z32 23 := c8.alloc _
            refine hK.out _ _ (hHeld.alloc _) (fun hHeld => ?_)
            clear hK K
            try simp only [Act.put, List.setIfInBounds_toArray, List.set_cons_zero, List.set_cons_succ]
            refine wpAnyH_ready (rs := [5]) (by kernel_rfl) (by simp) ?_
            refine AllReadyH.cons (o := _) rfl (fun K hK => ?_) ?_
            ·
              go_simp
              refine (Neg_fe u ru _).mono ?_
              rintro e x7 ⟨rfl, k⟩
              go_wp2_with fail
              refine hK.out _ _ (hHeld.trans1 k) (fun hHeld => ?_)
              replace c8 := c8.chg k (by simp)
              replace c7 := c7.chg k (by simp)
              clear k
              clear hK K
              try simp only [Act.put, List.setIfInBounds_toArray, List.set_cons_zero, List.set_cons_succ]
              refine wpAnyH_ready (rs := [8]) (by kernel_rfl) (by simp) ?_
              refine AllReadyH.cons (o := _) rfl (fun K hK => ?_) ?_
              ·
                rw [if_pos (by rfl)]
                refine wp_store_row 23 _ _ rfl (x2.heap.size + 1) _ rfl rfl 23 _ c7 feInfo rfl (feC_one _) ?_
                refine hK.out _ _ (hHeld.setRowNew b7 _) (fun hHeld => ?_)
                replace c8 := c8.setRowOther ne78 (feC (gotf u v))
                replace c7 := c7.setRow (feC (gotf u v))
                clear hK K
                try simp only [Act.put, List.setIfInBounds_toArray, List.set_cons_zero, List.set_cons_succ]
                refine wpAnyH_ready (rs := [9]) (by kernel_rfl) (by simp) ?_
                refine AllReadyH.cons (o := _) rfl (fun K hK => ?_) ?_
                ·
                  rw [if_pos (by rfl)]
                  refine wp_store_row 23 _ _ rfl (x2.heap.size) _ rfl rfl 23 _ c8 feInfo rfl (feC_one _) ?_
                  refine hK.out _ _ (hHeld.setRowNew b8 _) (fun hHeld => ?_)
                  replace c7 := c7.setRowOther (Ne.symm ne78) (feC (-u % P))
                  replace c8 := c8.setRow (feC (-u % P))
                  clear hK K
                  try simp only [Act.put, List.setIfInBounds_toArray, List.set_cons_zero, List.set_cons_succ]
                  refine wpAnyH_done (by kernel_rfl) ?_ _
                  exact ⟨(x2.heap.size + 1), (x2.heap.size), rfl, b7, b8, (Ne.symm ne78), c7, c8, hHeld⟩
                exact AllReadyH.nil
              exact AllReadyH.nil
            exact AllReadyH.nil
          exact AllReadyH.nil
        exact AllReadyH.nil
      refine AllReadyH.cons (o := _) rfl (fun K hK => ?_) ?_
      ·
        go_simp
        have b7 : v2.heap.size ≤ x1.heap.size := by have h := hHeld.size; simpa using h
        have c7 : Blk (x1.alloc (.cells z32 23)) (x1.heap.size) z32 23 := by have h := Blk.new x1 z32 23; simpa using h
        refine hK.out _ _ (hHeld.alloc _) (fun hHeld => ?_)
        clear hK K
        try simp only [Act.put, List.setIfInBounds_toArray, List.set_cons_zero, List.set_cons_succ]
        refine wpAnyH_ready (rs := [3, 7]) (by kernel_rfl) (by simp) ?_
        refine AllReadyH.cons (o := _) rfl (fun K hK => ?_) ?_
        ·
          go_simp
          refine (Mul_fe v ((rc u v) * (rc u v) % P) rv (r256_mod _) _).mono ?_
          rintro e x8 ⟨rfl, k⟩
          go_wp2_with fail
          refine hK.out _ _ (hHeld.trans1 k) (fun hHeld => ?_)
          replace c7 := c7.chg k (by simp)
          clear k
          clear hK K
          try simp only [Act.put, List.setIfInBounds_toArray, List.set_cons_zero, List.set_cons_succ]
          refine wpAnyH_ready (rs := [5, 7]) (by kernel_rfl) (by simp) ?_
          refine AllReadyH.cons (o := _) rfl (fun K hK => ?_) ?_
          ·
            go_simp
            refine (Neg_fe u ru _).mono ?_
            rintro e x9 ⟨rfl, k⟩
            go_wp2_with fail
            refine hK.out _ _ (hHeld.trans1 k) (fun hHeld => ?_)
            replace c7 := c7.chg k (by simp)
            clear k
            clear hK K
            try simp only [Act.put, List.setIfInBounds_toArray, List.set_cons_zero, List.set_cons_succ]
            refine wpAnyH_ready (rs := [7]) (by kernel_rfl) (by simp) ?_
            refine AllReadyH.cons (o := _) rfl (fun K hK => ?_) ?_
            ·
              go_simp
              have b8 : v2.heap.size ≤ x9.heap.size := by have h := hHeld.size; simpa using h
              have c8 : Blk (x9.alloc (.cells z32 23)) (x9.heap.size) z32 23 := by have h := Blk.new x9 z32 23; simpa using h
              have ne78 : (x1.heap.size) ≠ x9.heap.size := by have h := c7.lt; first | omega | (simp at h; omega)
              replace c7 : Blk (x9.alloc (.cells z32 23)) ((x1.heap.size)) z32 23 := c7.alloc _
              refine hK.out _ _ (hHeld.alloc _) (fun hHeld => ?_)
              clear hK K
              try simp only [Act.put, List.setIfInBounds_toArray, List.set_cons_zero, List.set_cons_succ]
              refine wpAnyH_ready (rs := [8]) (by kernel_rfl) (by simp) ?_
              refine AllReadyH.cons (o := _) rfl (fun K hK => ?_) ?_
              ·
                rw [if_pos (by rfl)]
                refine wp_store_row 23 _ _ rfl (x1.heap.size) _ rfl rfl 23 _ c7 feInfo rfl (feC_one _) ?_
                refine hK.out _ _ (hHeld.setRowNew b7 _) (fun hHeld => ?_)
                replace c8 := c8.setRowOther (Ne.symm ne78) (feC (gotf u v))
                replace c7 := c7.setRow (feC (gotf u v))
                clear hK K
                try simp only [Act.put, List.setIfInBounds_toArray, List.set_cons_zero, List.set_cons_succ]
                refine wpAnyH_ready (rs := [9]) (by kernel_rfl) (by simp) ?_
                refine AllReadyH.cons (o := _) rfl (fun K hK => ?_) ?_
                ·
                  rw [if_pos (by rfl)]
                  refine wp_store_row 23 _ _ rfl (x9.heap.size) _ rfl rfl 23 _ c8 feInfo rfl (feC_one _) ?_
                  refine hK.out _ _ (hHeld.setRowNew b8 _) (fun hHeld => ?_)
                  replace c7 := c7.setRowOther ne78 (feC (-u % P))
                  replace c8 := c8.setRow (feC (-u % P))
                  clear hK K
                  try simp only [Act.put, List.setIfInBounds_toArray, List.set_cons_zero, List.set_cons_succ]
                  refine wpAnyH_done (by kernel_rfl) ?_ _
                  exact ⟨(x1.heap.size), (x9.heap.size), rfl, b7, b8, ne78, c7, c8, hHeld⟩
                exact AllReadyH.nil
              exact AllReadyH.nil
            exact AllReadyH.nil
          refine AllReadyH.cons (o := _) rfl (fun K hK => ?_) ?_
          ·
            go_simp
            have b8 : v2.heap.size ≤ x8.heap.size := by have h := hHeld.size; simpa using h
            have c8 : Blk (x8.alloc (.cells z32 23)) (x8.heap.size) z32 23 := by have h := Blk.new x8 z32 23; simpa using h
            have ne78 : (x1.heap.size) ≠ x8.heap.size := by have h := c7.lt; first | omega | (simp at h; omega)
            replace c7 : Blk (x8.alloc (.cells z32 23)) ((x1.heap.size)) z32 23 := c7.alloc _
            refine hK.out _ _ (hHeld.alloc _) (fun hHeld => ?_)
            clear hK K
            try simp only [Act.put, List.setIfInBounds_toArray, List.set_cons_zero, List.set_cons_succ]
            refine wpAnyH_ready (rs := [5]) (by kernel_rfl) (by simp) ?_
            refine AllReadyH.cons (o := _) rfl (fun K hK => ?_) ?_
            ·
              go_simp
              refine (Neg_fe u ru _).mono ?_
              rintro e x10 ⟨rfl, k⟩
              go_wp2_with fail
              refine hK.out _ _ (hHeld.trans1 k) (fun hHeld => ?_)
              replace c7 := c7.chg k (by simp)
              replace c8 := c8.chg k (by simp)
              clear k
              clear hK K
              try simp only [Act.put, List.setIfInBounds_toArray, List.set_cons_zero, List.set_cons_succ]
              refine wpAnyH_ready (rs := [8]) (by kernel_rfl) (by simp) ?_
              refine AllReadyH.cons (o := _) rfl (fun K hK => ?_) ?_
              ·
                rw [if_pos (by rfl)]
                refine wp_store_row 23 _ _ rfl (x1.heap.size) _ rfl rfl 23 _ c7 feInfo rfl (feC_one _) ?_
                refine hK.out _ _ (hHeld.setRowNew b7 _) (fun hHeld => ?_)
                replace c8 := c8.setRowOther (Ne.symm ne78) (feC (gotf u v))
                replace c7 := c7.setRow (feC (gotf u v))
                clear hK K
                try simp only [Act.put, List.setIfInBounds_toArray, List.set_cons_zero, List.set_cons_succ]
                refine wpAnyH_ready (rs := [9]) (by kernel_rfl) (by simp) ?_
                refine AllReadyH.cons (o := _) rfl (fun K hK => ?_) ?_
                ·
                  rw [if_pos (by rfl)]
                  refine wp_store_row 23 _ _ rfl (x8.heap.size) _ rfl rfl 23 _ c8 feInfo rfl (feC_one _) ?_
                  refine hK.out _ _ (hHeld.setRowNew b8 _) (fun hHeld => ?_)
                  replace c7 := c7.setRowOther ne78 (feC (-u % P))
                  replace c8 := c8.setRow (feC (-u % P))
                  clear hK K
                  try simp only [Act.put, List.setIfInBounds_toArray, List.set_cons_zero, List.set_cons_succ]
                  refine wpAnyH_done (by kernel_rfl) ?_ _
                  exact ⟨(x1.heap.size), (x8.heap.size), rfl, b7, b8, ne78, c7, c8, hHeld⟩
                exact AllReadyH.nil
              exact AllReadyH.nil
            exact AllReadyH.nil
          exact AllReadyH.nil
        refine AllReadyH.cons (o := _) rfl (fun K hK => ?_) ?_
        ·
          go_simp
          have b8 : v2.heap.size ≤ x1.heap.size + 1 := by have h := hHeld.size; simpa using h
          have c8 : Blk ((x1.alloc (.cells z32 23)).alloc (.cells z32 23)) (x1.heap.size + 1) z32 23 := by have h := Blk.new (x1.alloc (.cells z32 23)) z32 23; simpa using h
          have ne78 : (x1.heap.size) ≠ x1.heap.size + 1 := by have h := c7.lt; first | omega | (simp at h; omega)
          replace c7 : Blk ((x1.alloc (.cells z32 23)).alloc (.cells z32 23)) ((x1.heap.size)) z32 23 := c7.alloc _
          refine hK.out _ _ (hHeld.alloc _) (fun hHeld => ?_)
          clear hK K
          try simp only [Act.put, List.setIfInBounds_toArray, List.set_cons_zero, List.set_cons_succ]
          refine wpAnyH_ready (rs := [3]) (by kernel_rfl) (by simp) ?_
          refine AllReadyH.cons (o := _) rfl (fun K hK => ?_) ?_
          ·
            go_simp
            refine (Mul_fe v ((rc u v) * (rc u v) % P) rv (r256_mod _) _).mono ?_
            rintro e x11 ⟨rfl, k⟩
            go_wp2_with fail
            refine hK.out _ _ (hHeld.trans1 k) (fun hHeld => ?_)
            replace c7 := c7.chg k (by simp)
            replace c8 := c8.chg k (by simp)
            clear k
            clear hK K
            try simp only [Act.put, List.setIfInBounds_toArray, List.set_cons_zero, List.set_cons_succ]
            refine wpAnyH_ready (rs := [5]) (by kernel_rfl) (by simp) ?_
            refine AllReadyH.cons (o := _) rfl (fun K hK => ?_) ?_
            ·
              go_simp
              refine (Neg_fe u ru _).mono ?_
              rintro e x12 ⟨rfl, k⟩
              go_wp2_with fail
              refine hK.out _ _ (hHeld.trans1 k) (fun hHeld => ?_)
              replace c7 := c7.chg k (by simp)
              replace c8 := c8.chg k (by simp)
              clear k
              clear hK K
              try simp only [Act.put, List.setIfInBounds_toArray, List.set_cons_zero, List.set_cons_succ]
              refine wpAnyH_ready (rs := [8]) (by kernel_rfl) (by simp) ?_
              refine AllReadyH.cons (o := _) rfl (fun K hK => ?_) ?_
              ·
                rw [if_pos (by rfl)]
                refine wp_store_row 23 _ _ rfl (x1.heap.size) _ rfl rfl 23 _ c7 feInfo rfl (feC_one _) ?_
                refine hK.out _ _ (hHeld.setRowNew b7 _) (fun hHeld => ?_)
                replace c8 := c8.setRowOther (Ne.symm ne78) (feC (gotf u v))
                replace c7 := c7.setRow (feC (gotf u v))
                clear hK K
                try simp only [Act.put, List.setIfInBounds_toArray, List.set_cons_zero, List.set_cons_succ]
                refine wpAnyH_ready (rs := [9]) (by kernel_rfl) (by simp) ?_
                refine AllReadyH.cons (o := _) rfl (fun K hK => ?_) ?_
                ·
                  rw [if_pos (by rfl)]
                  refine wp_store_row 23 _ _ rfl (x1.heap.size + 1) _ rfl rfl 23 _ c8 feInfo rfl (feC_one _) ?_
                  refine hK.out _ _ (hHeld.setRowNew b8 _) (fun hHeld => ?_)
                  replace c7 := c7.setRowOther ne78 (feC (-u % P))
                  replace c8 := c8.setRow (feC (-u % P))
                  clear hK K
                  try simp only [Act.put, List.setIfInBounds_toArray, List.set_cons_zero, List.set_cons_succ]
                  refine wpAnyH_done (by kernel_rfl) ?_ _
                  exact ⟨(x1.heap.size), (x1.heap.size + 1), rfl, b7, b8, ne78, c7, c8, hHeld⟩
                exact AllReadyH.nil
              exact AllReadyH.nil
            exact AllReadyH.nil
          exact AllReadyH.nil
        exact AllReadyH.nil
      refine AllReadyH.cons (o := _) rfl (fun K hK => ?_) ?_
      ·
        go_simp
        have b8 : v2.heap.size ≤ x1.heap.size := by have h := hHeld.size; simpa using h
        have c8 : Blk (x1.alloc (.cells z32 23)) (x1.heap.size) z32 23 := by have h := Blk.new x1 z32 23; simpa using h
        refine hK.out _ _ (hHeld.alloc _) (fun hHeld => ?_)
        clear hK K
        try simp only [Act.put, List.setIfInBounds_toArray, List.set_cons_zero, List.set_cons_succ]
        refine wpAnyH_ready (rs := [3, 6]) (by kernel_rfl) (by simp) ?_
        refine AllReadyH.cons (o := _) rfl (fun K hK => ?_) ?_
        ·
          go_simp
          refine (Mul_fe v ((rc u v) * (rc u v) % P) rv (r256_mod _) _).mono ?_
          rintro e x13 ⟨rfl, k⟩
          go_wp2_with fail
          refine hK.out _ _ (hHeld.trans1 k) (fun hHeld => ?_)
          replace c8 := c8.chg k (by simp)
          clear k
          clear hK K
          try simp only [Act.put, List.setIfInBounds_toArray, List.set_cons_zero, List.set_cons_succ]
          refine wpAnyH_ready (rs := [5, 6]) (by kernel_rfl) (by simp) ?_
          refine AllReadyH.cons (o := _) rfl (fun K hK => ?_) ?_
          ·
            go_simp
            refine (Neg_fe u ru _).mono ?_
            rintro e x14 ⟨rfl, k⟩
            go_wp2_with fail
            refine hK.out _ _ (hHeld.trans1 k) (fun hHeld => ?_)
            replace c8 := c8.chg k (by simp)
            clear k
            clear hK K
            try simp only [Act.put, List.setIfInBounds_toArray, List.set_cons_zero, List.set_cons_succ]
            refine wpAnyH_ready (rs := [6]) (by kernel_rfl) (by simp) ?_
            refine AllReadyH.cons (o := _) rfl (fun K hK => ?_) ?_
            ·
              go_simp
              have b7 : v2.heap.size ≤ x14.heap.size := by have h := hHeld.size; simpa using h
              have c7 : Blk (x14.alloc (.cells z32 23)) (x14.heap.size) z32 23 := by have h := Blk.new x14 z32 23; simpa using h
              have ne78 : (x1.heap.size) ≠ x14.heap.size := by have h := c8.lt; first | omega | (simp at h; omega)
              replace c8 : Blk (x14.alloc (.cells z32 23)) ((x1.heap.size)) z32 23 := c8.alloc _
              refine hK.out _ _ (hHeld.alloc _) (fun hHeld => ?_)
              clear hK K
              try simp only [Act.put, List.setIfInBounds_toArray, List.set_cons_zero, List.set_cons_succ]
              refine wpAnyH_ready (rs := [8]) (by kernel_rfl) (by simp) ?_
              refine AllReadyH.cons (o := _) rfl (fun K hK => ?_) ?_
              ·
                rw [if_pos (by rfl)]
                refine wp_store_row 23 _ _ rfl (x14.heap.size) _ rfl rfl 23 _ c7 feInfo rfl (feC_one _) ?_
                refine hK.out _ _ (hHeld.setRowNew b7 _) (fun hHeld => ?_)
                replace c8 := c8.setRowOther ne78 (feC (gotf u v))
                replace c7 := c7.setRow (feC (gotf u v))
                clear hK K
                try simp only [Act.put, List.setIfInBounds_toArray, List.set_cons_zero, List.set_cons_succ]
                refine wpAnyH_ready (rs := [9]) (by kernel_rfl) (by simp) ?_
                refine AllReadyH.cons (o := _) rfl (fun K hK => ?_) ?_
                ·
                  rw [if_pos (by rfl)]
                  refine wp_store_row 23 _ _ rfl (x1.heap.size) _ rfl rfl 23 _ c8 feInfo rfl (feC_one _) ?_
                  refine hK.out _ _ (hHeld.setRowNew b8 _) (fun hHeld => ?_)
                  replace c7 := c7.setRowOther (Ne.symm ne78) (feC (-u % P))
                  replace c8 := c8.setRow (feC (-u % P))
                  clear hK K
                  try simp only [Act.put, List.setIfInBounds_toArray, List.set_cons_zero, List.set_cons_succ]
                  refine wpAnyH_done (by kernel_rfl) ?_ _
                  exact ⟨(x14.heap.size), (x1.heap.size), rfl, b7, b8, (Ne.symm ne78), c7, c8, hHeld⟩
                exact AllReadyH.nil
              exact AllReadyH.nil
            exact AllReadyH.nil
          refine AllReadyH.cons (o := _) rfl (fun K hK => ?_) ?_
          ·
            go_simp
            have b7 : v2.heap.size ≤ x13.heap.size := by have h := hHeld.size; simpa using h
            have c7 : Blk (x13.alloc (.cells z32 23)) (x13.heap.size) z32 23 := by have h := Blk.new x13 z32 23; simpa using h
            have ne78 : (x1.heap.size) ≠ x13.heap.size := by have h := c8.lt; first | omega | (simp at h; omega)
            replace c8 : Blk (x13.alloc (.cells z32 23)) ((x1.heap.size)) z32 23 := c8.alloc _
            refine hK.out _ _ (hHeld.alloc _) (fun hHeld => ?_)
            clear hK K
            try simp only [Act.put, List.setIfInBounds_toArray, List.set_cons_zero, List.set_cons_succ]
            refine wpAnyH_ready (rs := [5]) (by kernel_rfl) (by simp) ?_
            refine AllReadyH.cons (o := _) rfl (fun K hK => ?_) ?_
            ·
              go_simp
              refine (Neg_fe u ru _).mono ?_
              rintro e x15 ⟨rfl, k⟩
              go_wp2_with fail
              refine hK.out _ _ (hHeld.trans1 k) (fun hHeld => ?_)
              replace c8 := c8.chg k (by simp)
              replace c7 := c7.chg k (by simp)
              clear k
              clear hK K
              try simp only [Act.put, List.setIfInBounds_toArray, List.set_cons_zero, List.set_cons_succ]
              refine wpAnyH_ready (rs := [8]) (by kernel_rfl) (by simp) ?_
              refine AllReadyH.cons (o := _) rfl (fun K hK => ?_) ?_
              ·
                rw [if_pos (by rfl)]
                refine wp_store_row 23 _ _ rfl (x13.heap.size) _ rfl rfl 23 _ c7 feInfo rfl (feC_one _) ?_
                refine hK.out _ _ (hHeld.setRowNew b7 _) (fun hHeld => ?_)
                replace c8 := c8.setRowOther ne78 (feC (gotf u v))
                replace c7 := c7.setRow (feC (gotf u v))
                clear hK K
                try simp only [Act.put, List.setIfInBounds_toArray, List.set_cons_zero, List.set_cons_succ]
                refine wpAnyH_ready (rs := [9]) (by kernel_rfl) (by simp) ?_
                refine AllReadyH.cons (o := _) rfl (fun K hK => ?_) ?_
                ·
                  rw [if_pos (by rfl)]
                  refine wp_store_row 23 _ _ rfl (x1.heap.size) _ rfl rfl 23 _ c8 feInfo rfl (feC_one _) ?_
                  refine hK.out _ _ (hHeld.setRowNew b8 _) (fun hHeld => ?_)
                  replace c7 := c7.setRowOther (Ne.symm ne78) (feC (-u % P))
                  replace c8 := c8.setRow (feC (-u % P))
                  clear hK K
                  try simp only [Act.put, List.setIfInBounds_toArray, List.set_cons_zero, List.set_cons_succ]
                  refine wpAnyH_done (by kernel_rfl) ?_ _
                  exact ⟨(x13.heap.size), (x1.heap.size), rfl, b7, b8, (Ne.symm ne78), c7, c8, hHeld⟩
                exact AllReadyH.nil
              exact AllReadyH.nil
            exact AllReadyH.nil
          exact AllReadyH.nil
        refine AllReadyH.cons (o := _) rfl (fun K hK => ?_) ?_
        ·
          go_simp
          have b7 : v2.heap.size ≤ x1.heap.size + 1 := by have h := hHeld.size; simpa using h
          have c7 : Blk ((x1.alloc (.cells z32 23)).alloc (.cells z32 23)) (x1.heap.size + 1) z32 23 := by have h := Blk.new (x1.alloc (.cells z32 23)) z32 23; simpa using h
          have ne78 : (x1.heap.size) ≠ x1.heap.size + 1 := by have h := c8.lt; first | omega | (simp at h; omega)
          replace c8 : Blk ((x1.alloc (.cells z32 23)).alloc (.cells z32 23)) ((x1.heap.size)) z32 23 := c8.alloc _
          refine hK.out _ _ (hHeld.alloc _) (fun hHeld => ?_)
          clear hK K
          try simp only [Act.put, List.setIfInBounds_toArray, List.set_cons_zero, List.set_cons_succ]
          refine wpAnyH_ready (rs := [3]) (by kernel_rfl) (by simp) ?_
          refine AllReadyH.cons (o := _) rfl (fun K hK => ?_) ?_
          ·
            go_simp
            refine (Mul_fe v ((rc u v) * (rc u v) % P) rv (r256_mod _) _).mono ?_
            rintro e x16 ⟨rfl, k⟩
            go_wp2_with fail
            refine hK.out _ _ (hHeld.trans1 k) (fun hHeld => ?_)
            replace c8 := c8.chg k (by simp)
            replace c7 := c7.chg k (by simp)
            clear k
            clear hK K
            try simp only [Act.put, List.setIfInBounds_toArray, List.set_cons_zero, List.set_cons_succ]
            refine wpAnyH_ready (rs := [5]) (by kernel_rfl) (by simp) ?_
            refine AllReadyH.cons (o := _) rfl (fun K hK => ?_) ?_
            ·
              go_simp
              refine (Neg_fe u ru _).mono ?_
              rintro e x17 ⟨rfl, k⟩
              go_wp2_with fail
              refine hK.out _ _ (hHeld.trans1 k) (fun hHeld => ?_)
              replace c8 := c8.chg k (by simp)
              replace c7 := c7.chg k (by simp)
              clear k
              clear hK K
              try simp only [Act.put, List.setIfInBounds_toArray, List.set_cons_zero, List.set_cons_succ]
              refine wpAnyH_ready (rs := [8]) (by kernel_rfl) (by simp) ?_
              refine AllReadyH.cons (o := _) rfl (fun K hK => ?_) ?_
              ·
                rw [if_pos (by rfl)]
                refine wp_store_row 23 _ _ rfl (x1.heap.size + 1) _ rfl rfl 23 _ c7 feInfo rfl (feC_one _) ?_
                refine hK.out _ _ (hHeld.setRowNew b7 _) (fun hHeld => ?_)
                replace c8 := c8.setRowOther ne78 (feC (gotf u v))
                replace c7 := c7.setRow (feC (gotf u v))
                clear hK K
                try simp only [Act.put, List.setIfInBounds_toArray, List.set_cons_zero, List.set_cons_succ]
                refine wpAnyH_ready (rs := [9]) (by kernel_rfl) (by simp) ?_
                refine AllReadyH.cons (o := _) rfl (fun K hK => ?_) ?_
                ·
                  rw [if_pos (by rfl)]
                  refine wp_store_row 23 _ _ rfl (x1.heap.size) _ rfl rfl 23 _ c8 feInfo rfl (feC_one _) ?_
                  refine hK.out _ _ (hHeld.setRowNew b8 _) (fun hHeld => ?_)
                  replace c7 := c7.setRowOther (Ne.symm ne78) (feC (-u % P))
                  replace c8 := c8.setRow (feC (-u % P))
                  clear hK K
                  try simp only [Act.put, List.setIfInBounds_toArray, List.set_cons_zero, List.set_cons_succ]
                  refine wpAnyH_done (by kernel_rfl) ?_ _
                  exact ⟨(x1.heap.size + 1), (x1.heap.size), rfl, b7, b8, (Ne.symm ne78), c7, c8, hHeld⟩
                exact AllReadyH.nil
              exact AllReadyH.nil
            exact AllReadyH.nil
          exact AllReadyH.nil
        exact AllReadyH.nil
      exact AllReadyH.nil
    refine AllReadyH.cons (o := _) rfl (fun K hK => ?_) ?_
    ·
      go_simp
      have b7 : v2.heap.size ≤ v2.heap.size := by have h := hHeld.size; simpa using h
      have c7 : Blk (v2.drew.alloc (.cells z32 23)) (v2.heap.size) z32 23 := by have h := Blk.new v2.drew z32 23; simpa using h
      refine hK.out _ _ (hHeld.alloc _) (fun hHeld => ?_)
      clear hK K
      try simp only [Act.put, List.setIfInBounds_toArray, List.set_cons_zero, List.set_cons_succ]
      refine wpAnyH_ready (rs := [2, 7]) (by kernel_rfl) (by simp) ?_
      refine AllReadyH.cons (o := _) rfl (fun K hK => ?_) ?_
      ·
        go_simp
        refine (Square_fe (rc u v) rr _).mono ?_
        rintro e x18 ⟨rfl, k⟩
        go_wp2_with fail
        refine hK.out _ _ (hHeld.trans1 k) (fun hHeld => ?_)
        replace c7 := c7.chg k (by simp)
        clear k
        clear hK K
        try simp only [Act.put, List.setIfInBounds_toArray, List.set_cons_zero, List.set_cons_succ]
        refine wpAnyH_ready (rs := [3, 7]) (by kernel_rfl) (by simp) ?_
        refine AllReadyH.cons (o := _) rfl (fun K hK => ?_) ?_
        ·
          go_simp
          refine (Mul_fe v ((rc u v) * (rc u v) % P) rv (r256_mod _) _).mono ?_
          rintro e x19 ⟨rfl, k⟩
          go_wp2_with fail
          refine hK.out _ _ (hHeld.trans1 k) (fun hHeld => ?_)
          replace c7 := c7.chg k (by simp)
          clear k
          clear hK K
          try simp only [Act.put, List.setIfInBounds_toArray, List.set_cons_zero, List.set_cons_succ]
          refine wpAnyH_ready (rs := [5, 7]) (by kernel_rfl) (by simp) ?_
          refine AllReadyH.cons (o := _) rfl (fun K hK => ?_) ?_
          ·
            go_simp
            refine (Neg_fe u ru _).mono ?_
            rintro e x20 ⟨rfl, k⟩
            go_wp2_with fail
            refine hK.out _ _ (hHeld.trans1 k) (fun hHeld => ?_)
            replace c7 := c7.chg k (by simp)
            clear k
            clear hK K
            try simp only [Act.put, List.setIfInBounds_toArray, List.set_cons_zero, List.set_cons_succ]
            refine wpAnyH_ready (rs := [7]) (by kernel_rfl) (by simp) ?_
            refine AllReadyH.cons (o := _) rfl (fun K hK => ?_) ?_
            ·
              go_simp
              have b8 : v2.heap.size ≤ x20.heap.size := by have h := hHeld.size; simpa using h
              have c8 : Blk (x20.alloc (.cells z32 23)) (x20.heap.size) z32 23 := by have h := Blk.new x20 z32 23; simpa using h
              have ne78 : (v2.heap.size) ≠ x20.heap.size := by have h := c7.lt; first | omega | (simp at h; omega)
              replace c7 : Blk (x20.alloc (.cells z32 23)) ((v2.heap.size)) z32 23 := c7.alloc _
              refine hK.out _ _ (hHeld.alloc _) (fun hHeld => ?_)
              clear hK K
              try simp only [Act.put, List.setIfInBounds_toArray, List.set_cons_zero, List.set_cons_succ]
              refine wpAnyH_ready (rs := [8]) (by kernel_rfl) (by simp) ?_
              refine AllReadyH.cons (o := _) rfl (fun K hK => ?_) ?_
              ·
                rw [if_pos (by rfl)]
                refine wp_store_row 23 _ _ rfl (v2.heap.size) _ rfl rfl 23 _ c7 feInfo rfl (feC_one _) ?_
                refine hK.out _ _ (hHeld.setRowNew b7 _) (fun hHeld => ?_)
                replace c8 := c8.setRowOther (Ne.symm ne78) (feC (gotf u v))
                replace c7 := c7.setRow (feC (gotf u v))
                clear hK K
                try simp only [Act.put, List.setIfInBounds_toArray, List.set_cons_zero, List.set_cons_succ]
                refine wpAnyH_ready (rs := [9]) (by kernel_rfl) (by simp) ?_
                refine AllReadyH.cons (o := _) rfl (fun K hK => ?_) ?_
                ·
                  rw [if_pos (by rfl)]
                  refine wp_store_row 23 _ _ rfl (x20.heap.size) _ rfl rfl 23 _ c8 feInfo rfl (feC_one _) ?_
                  refine hK.out _ _ (hHeld.setRowNew b8 _) (fun hHeld => ?_)
                  replace c7 := c7.setRowOther ne78 (feC (-u % P))
                  replace c8 := c8.setRow (feC (-u % P))
                  clear hK K
                  try simp only [Act.put, List.setIfInBounds_toArray, List.set_cons_zero, List.set_cons_succ]
                  refine wpAnyH_done (by kernel_rfl) ?_ _
                  exact ⟨(v2.heap.size), (x20.heap.size), rfl, b7, b8, ne78, c7, c8, hHeld⟩
                exact AllReadyH.nil
              exact AllReadyH.nil
            exact AllReadyH.nil
          refine AllReadyH.cons (o := _) rfl (fun K hK => ?_) ?_
          ·
            go_simp
            have b8 : v2.heap.size ≤ x19.heap.size := by have h := hHeld.size; simpa using h
            have c8 : Blk (x19.alloc (.cells z32 23)) (x19.heap.size) z32 23 := by have h := Blk.new x19 z32 23; simpa using h
            have ne78 : (v2.heap.size) ≠ x19.heap.size := by have h := c7.lt; first | omega | (simp at h; omega)
            replace c7 : Blk (x19.alloc (.cells z32 23)) ((v2.heap.size)) z32 23 := c7.alloc _
            refine hK.out _ _ (hHeld.alloc _) (fun hHeld => ?_)
            clear hK K
            try simp only [Act.put, List.setIfInBounds_toArray, List.set_cons_zero, List.set_cons_succ]
            refine wpAnyH_ready (rs := [5]) (by kernel_rfl) (by simp) ?_
            refine AllReadyH.cons (o := _) rfl (fun K hK => ?_) ?_
            ·
              go_simp
              refine (Neg_fe u ru _).mono ?_
              rintro e x21 ⟨rfl, k⟩
              go_wp2_with fail
              refine hK.out _ _ (hHeld.trans1 k) (fun hHeld => ?_)
              replace c7 := c7.chg k (by simp)
              replace c8 := c8.chg k (by simp)
              clear k
              clear hK K
              try simp only [Act.put, List.setIfInBounds_toArray, List.set_cons_zero, List.set_cons_succ]
              refine wpAnyH_ready (rs := [8]) (by kernel_rfl) (by simp) ?_
              refine AllReadyH.cons (o := _) rfl (fun K hK => ?_) ?_
              ·
                rw [if_pos (by rfl)]
                refine wp_store_row 23 _ _ rfl (v2.heap.size) _ rfl rfl 23 _ c7 feInfo rfl (feC_one _) ?_
                refine hK.out _ _ (hHeld.setRowNew b7 _) (fun hHeld => ?_)
                replace c8 := c8.setRowOther (Ne.symm ne78) (feC (gotf u v))
                replace c7 := c7.setRow (feC (gotf u v))
                clear hK K
                try simp only [Act.put, List.setIfInBounds_toArray, List.set_cons_zero, List.set_cons_succ]
                refine wpAnyH_ready (rs := [9]) (by kernel_rfl) (by simp) ?_
                refine AllReadyH.cons (o := _) rfl (fun K hK => ?_) ?_
                ·
                  rw [if_pos (by rfl)]
                  refine wp_store_row 23 _ _ rfl (x19.heap.size) _ rfl rfl 23 _ c8 feInfo rfl (feC_one _) ?_
                  refine hK.out _ _ (hHeld.setRowNew b8 _) (fun hHeld => ?_)
                  replace c7 := c7.setRowOther ne78 (feC (-u % P))
                  replace c8 := c8.setRow (feC (-u % P))
                  clear hK K
                  try simp only [Act.put, List.setIfInBounds_toArray, List.set_cons_zero, List.set_cons_succ]
                  refine wpAnyH_done (by kernel_rfl) ?_ _
                  exact ⟨(v2.heap.size), (x19.heap.size), rfl, b7, b8, ne78, c7, c8, hHeld⟩
                exact AllReadyH.nil
              exact AllReadyH.nil
            exact AllReadyH.nil
          exact AllReadyH.nil
        refine AllReadyH.cons (o := _) rfl (fun K hK => ?_) ?_
        ·
          go_simp
          have b8 : v2.heap.size ≤ x18.heap.size := by have h := hHeld.size; simpa using h
          have c8 : Blk (x18.alloc (.cells z32 23)) (x18.heap.size) z32 23 := by have h := Blk.new x18 z32 23; simpa using h
          have ne78 : (v2.heap.size) ≠ x18.heap.size := by have h := c7.lt; first | omega | (simp at h; omega)
          replace c7 : Blk (x18.alloc (.cells z32 23)) ((v2.heap.size)) z32 23 := c7.alloc _
          refine hK.out _ _ (hHeld.alloc _) (fun hHeld => ?_)
          clear hK K
          try simp only [Act.put, List.setIfInBounds_toArray, List.set_cons_zero, List.set_cons_succ]
          refine wpAnyH_ready (rs := [3]) (by kernel_rfl) (by simp) ?_
          refine AllReadyH.cons (o := _) rfl (fun K hK => ?_) ?_
          ·
            go_simp
            refine (Mul_fe v ((rc u v) * (rc u v) % P) rv (r256_mod _) _).mono ?_
            rintro e x22 ⟨rfl, k⟩
            go_wp2_with fail
            refine hK.out _ _ (hHeld.trans1 k) (fun hHeld => ?_)
            replace c7 := c7.chg k (by simp)
            replace c8 := c8.chg k (by simp)
            clear k
            clear hK K
            try simp only [Act.put, List.setIfInBounds_toArray, List.set_cons_zero, List.set_cons_succ]
            refine wpAnyH_ready (rs := [5]) (by kernel_rfl) (by simp) ?_
            refine AllReadyH.cons (o := _) rfl (fun K hK => ?_) ?_
            ·
              go_simp
              refine (Neg_fe u ru _).mono ?_
              rintro e x23 ⟨rfl, k⟩
              go_wp2_with fail
              refine hK.out _ _ (hHeld.trans1 k) (fun hHeld => ?_)
              replace c7 := c7.chg k (by simp)
              replace c8 := c8.chg k (by simp)
              clear k
              clear hK K
              try simp only [Act.put, List.setIfInBounds_toArray, List.set_cons_zero, List.set_cons_succ]
              refine wpAnyH_ready (rs := [8]) (by kernel_rfl) (by simp) ?_
              refine AllReadyH.cons (o := _) rfl (fun K hK => ?_) ?_
              ·
                rw [if_pos (by rfl)]
                refine wp_store_row 23 _ _ rfl (v2.heap.size) _ rfl rfl 23 _ c7 feInfo rfl (feC_one _) ?_
                refine hK.out _ _ (hHeld.setRowNew b7 _) (fun hHeld => ?_)
                replace c8 := c8.setRowOther (Ne.symm ne78) (feC (gotf u v))
                replace c7 := c7.setRow (feC (gotf u v))
                clear hK K
                try simp only [Act.put, List.setIfInBounds_toArray, List.set_cons_zero, List.set_cons_succ]
                refine wpAnyH_ready (rs := [9]) (by kernel_rfl) (by simp) ?_
                refine AllReadyH.cons (o := _) rfl (fun K hK => ?_) ?_
                ·
                  rw [if_pos (by rfl)]
                  refine wp_store_row 23 _ _ rfl (x18.heap.size) _ rfl rfl 23 _ c8 feInfo rfl (feC_one _) ?_
                  refine hK.out _ _ (hHeld.setRowNew b8 _) (fun hHeld => ?_)
                  replace c7 := c7.setRowOther ne78 (feC (-u % P))
                  replace c8 := c8.setRow (feC (-u % P))
                  clear hK K
                  try simp only [Act.put, List.setIfInBounds_toArray, List.set_cons_zero, List.set_cons_succ]
                  refine wpAnyH_done (by kernel_rfl) ?_ _
                  exact ⟨(v2.heap.size), (x18.heap.size), rfl, b7, b8, ne78, c7, c8, hHeld⟩
                exact AllReadyH.nil
              exact AllReadyH.nil
            exact AllReadyH.nil
          exact AllReadyH.nil
        exact AllReadyH.nil
      refine AllReadyH.cons (o := _) rfl (fun K hK => ?_) ?_
      ·
        go_simp
        have b8 : v2.heap.size ≤ v2.heap.size + 1 := by have h := hHeld.size; simpa using h
        have c8 : Blk ((v2.drew.alloc (.cells z32 23)).alloc (.cells z32 23)) (v2.heap.size + 1) z32 23 := by have h := Blk.new (v2.drew.alloc (.cells z32 23)) z32 23; simpa using h
        have ne78 : (v2.heap.size) ≠ v2.heap.size + 1 := by have h := c7.lt; first | omega | (simp at h; omega)
        replace c7 : Blk ((v2.drew.alloc (.cells z32 23)).alloc (.cells z32 23)) ((v2.heap.size)) z32 23 := c7.alloc _
        refine hK.out _ _ (hHeld.alloc _) (fun hHeld => ?_)
        clear hK K
        try simp only [Act.put, List.setIfInBounds_toArray, List.set_cons_zero, List.set_cons_succ]
        refine wpAnyH_ready (rs := [2]) (by kernel_rfl) (by simp) ?_
        refine AllReadyH.cons (o := _) rfl (fun K hK => ?_) ?_
        ·
          go_simp
          refine (Square_fe (rc u v) rr _).mono ?_
          rintro e x24 ⟨rfl, k⟩
          go_wp2_with fail
          refine hK.out _ _ (hHeld.trans1 k) (fun hHeld => ?_)
          replace c7 := c7.chg k (by simp)
          replace c8 := c8.chg k (by simp)
          clear k
          clear hK K
          try simp only [Act.put, List.setIfInBounds_toArray, List.set_cons_zero, List.set_cons_succ]
          refine wpAnyH_ready (rs := [3]) (by kernel_rfl) (by simp) ?_
          refine AllReadyH.cons (o := _) rfl (fun K hK => ?_) ?_
          ·
            go_simp
            refine (Mul_fe v ((rc u v) * (rc u v) % P) rv (r256_mod _) _).mono ?_
            rintro e x25 ⟨rfl, k⟩
            go_wp2_with fail
            refine hK.out _ _ (hHeld.trans1 k) (fun hHeld => ?_)
            replace c7 := c7.chg k (by simp)
            replace c8 := c8.chg k (by simp)
            clear k
            clear hK K
            try simp only [Act.put, List.setIfInBounds_toArray, List.set_cons_zero, List.set_cons_succ]
            refine wpAnyH_ready (rs := [5]) (by kernel_rfl) (by simp) ?_
            refine AllReadyH.cons (o := _) rfl (fun K hK => ?_) ?_
            ·
              go_simp
              refine (Neg_fe u ru _).mono ?_
              rintro e x26 ⟨rfl, k⟩
              go_wp2_with fail
              refine hK.out _ _ (hHeld.trans1 k) (fun hHeld => ?_)
              replace c7 := c7.chg k (by simp)
              replace c8 := c8.chg k (by simp)
              clear k
              clear hK K
              try simp only [Act.put, List.setIfInBounds_toArray, List.set_cons_zero, List.set_cons_succ]
              refine wpAnyH_ready (rs := [8]) (by kernel_rfl) (by simp) ?_
              refine AllReadyH.cons (o := _) rfl (fun K hK => ?_) ?_
              ·
                rw [if_pos (by rfl)]
                refine wp_store_row 23 _ _ rfl (v2.heap.size) _ rfl rfl 23 _ c7 feInfo rfl (feC_one _) ?_
                refine hK.out _ _ (hHeld.setRowNew b7 _) (fun hHeld => ?_)
                replace c8 := c8.setRowOther (Ne.symm ne78) (feC (gotf u v))
                replace c7 := c7.setRow (feC (gotf u v))
                clear hK K
                try simp only [Act.put, List.setIfInBounds_toArray, List.set_cons_zero, List.set_cons_succ]
                refine wpAnyH_ready (rs := [9]) (by kernel_rfl) (by simp) ?_
                refine AllReadyH.cons (o := _) rfl (fun K hK => ?_) ?_
                ·
                  rw [if_pos (by rfl)]
                  refine wp_store_row 23 _ _ rfl (v2.heap.size + 1) _ rfl rfl 23 _ c8 feInfo rfl (feC_one _) ?_
                  refine hK.out _ _ (hHeld.setRowNew b8 _) (fun hHeld => ?_)
                  replace c7 := c7.setRowOther ne78 (feC (-u % P))
                  replace c8 := c8.setRow (feC (-u % P))
                  clear hK K
                  try simp only [Act.put, List.setIfInBounds_toArray, List.set_cons_zero, List.set_cons_succ]
                  refine wpAnyH_done (by kernel_rfl) ?_ _
                  exact ⟨(v2.heap.size), (v2.heap.size + 1), rfl, b7, b8, ne78, c7, c8, hHeld⟩
                exact AllReadyH.nil
              exact AllReadyH.nil
            exact AllReadyH.nil
          exact AllReadyH.nil
        exact AllReadyH.nil
      exact AllReadyH.nil
    refine AllReadyH.cons (o := _) rfl (fun K hK => ?_) ?_
    ·
      go_simp
      have b8 : v2.heap.size ≤ v2.heap.size := by have h := hHeld.size; simpa using h
      have c8 : Blk (v2.drew.alloc (.cells z32 23)) (v2.heap.size) z32 23 := by have h := Blk.new v2.drew z32 23; simpa using h
      refine hK.out _ _ (hHeld.alloc _) (fun hHeld => ?_)
      clear hK K
      try simp only [Act.put, List.setIfInBounds_toArray, List.set_cons_zero, List.set_cons_succ]
      refine wpAnyH_ready (rs := [2, 6]) (by kernel_rfl) (by simp) ?_
      refine AllReadyH.cons (o := _) rfl (fun K hK => ?_) ?_
      ·
        go_simp
        refine (Square_fe (rc u v) rr _).mono ?_
        rintro e x27 ⟨rfl, k⟩
        go_wp2_with fail
        refine hK.out _ _ (hHeld.trans1 k) (fun hHeld => ?_)
        replace c8 := c8.chg k (by simp)
        clear k
        clear hK K
        try simp only [Act.put, List.setIfInBounds_toArray, List.set_cons_zero, List.set_cons_succ]
        refine wpAnyH_ready (rs := [3, 6]) (by kernel_rfl) (by simp) ?_
        refine AllReadyH.cons (o := _) rfl (fun K hK => ?_) ?_
        ·
          go_simp
          refine (Mul_fe v ((rc u v) * (rc u v) % P) rv (r256_mod _) _).mono ?_
          rintro e x28 ⟨rfl, k⟩
          go_wp2_with fail
          refine hK.out _ _ (hHeld.trans1 k) (fun hHeld => ?_)
          replace c8 := c8.chg k (by simp)
          clear k
          clear hK K
          try simp only [Act.put, List.setIfInBounds_toArray, List.set_cons_zero, List.set_cons_succ]
          refine wpAnyH_ready (rs := [5, 6]) (by kernel_rfl) (by simp) ?_
          refine AllReadyH.cons (o := _) rfl (fun K hK => ?_) ?_
          ·
            go_simp
            refine (Neg_fe u ru _).mono ?_
            rintro e x29 ⟨rfl, k⟩
            go_wp2_with fail
            refine hK.out _ _ (hHeld.trans1 k) (fun hHeld => ?_)
            replace c8 := c8.chg k (by simp)
            clear k
            clear hK K
            try simp only [Act.put, List.setIfInBounds_toArray, List.set_cons_zero, List.set_cons_succ]
            refine wpAnyH_ready (rs := [6]) (by kernel_rfl) (by simp) ?_
            refine AllReadyH.cons (o := _) rfl (fun K hK => ?_) ?_
            ·
              go_simp
              have b7 : v2.heap.size ≤ x29.heap.size := by have h := hHeld.size; simpa using h
              have c7 : Blk (x29.alloc (.cells z32 23)) (x29.heap.size) z32 23 := by have h := Blk.new x29 z32 23; simpa using h
              have ne78 : (v2.heap.size) ≠ x29.heap.size := by have h := c8.lt; first | omega | (simp at h; omega)
              replace c8 : Blk (x29.alloc (.cells z32 23)) ((v2.heap.size)) z32 23 := c8.alloc _
              refine hK.out _ _ (hHeld.alloc _) (fun hHeld => ?_)
              clear hK K
              try simp only [Act.put, List.setIfInBounds_toArray, List.set_cons_zero, List.set_cons_succ]
              refine wpAnyH_ready (rs := [8]) (by kernel_rfl) (by simp) ?_
              refine AllReadyH.cons (o := _) rfl (fun K hK => ?_) ?_
              ·
                rw [if_pos (by rfl)]
                refine wp_store_row 23 _ _ rfl (x29.heap.size) _ rfl rfl 23 _ c7 feInfo rfl (feC_one _) ?_
                refine hK.out _ _ (hHeld.setRowNew b7 _) (fun hHeld => ?_)
                replace c8 := c8.setRowOther ne78 (feC (gotf u v))
                replace c7 := c7.setRow (feC (gotf u v))
                clear hK K
                try simp only [Act.put, List.setIfInBounds_toArray, List.set_cons_zero, List.set_cons_succ]
                refine wpAnyH_ready (rs := [9]) (by kernel_rfl) (by simp) ?_
                refine AllReadyH.cons (o := _) rfl (fun K hK => ?_) ?_
                ·
                  rw [if_pos (by rfl)]
                  refine wp_store_row 23 _ _ rfl (v2.heap.size) _ rfl rfl 23 _ c8 feInfo rfl (feC_one _) ?_
                  refine hK.out _ _ (hHeld.setRowNew b8 _) (fun hHeld => ?_)
                  replace c7 := c7.setRowOther (Ne.symm ne78) (feC (-u % P))
                  replace c8 := c8.setRow (feC (-u % P))
                  clear hK K
                  try simp only [Act.put, List.setIfInBounds_toArray, List.set_cons_zero, List.set_cons_succ]
                  refine wpAnyH_done (by kernel_rfl) ?_ _
                  exact ⟨(x29.heap.size), (v2.heap.size), rfl, b7, b8, (Ne.symm ne78), c7, c8, hHeld⟩
                exact AllReadyH.nil
              exact AllReadyH.nil
            exact AllReadyH.nil
          refine AllReadyH.cons (o := _) rfl (fun K hK => ?_) ?_
          ·
            go_simp
            have b7 : v2.heap.size ≤ x28.heap.size := by have h := hHeld.size; simpa using h
            have c7 : Blk (x28.alloc (.cells z32 23)) (x28.heap.size) z32 23 := by have h := Blk.new x28 z32 23; simpa using h
            have ne78 : (v2.heap.size) ≠ x28.heap.size := by have h := c8.lt; first | omega | (simp at h; omega)
            replace c8 : Blk (x28.alloc (.cells z32 23)) ((v2.heap.size)) z32 23 := c8.alloc _
            refine hK.out _ _ (hHeld.alloc _) (fun hHeld => ?_)
            clear hK K
            try simp only [Act.put, List.setIfInBounds_toArray, List.set_cons_zero, List.set_cons_succ]
            refine wpAnyH_ready (rs := [5]) (by kernel_rfl) (by simp) ?_
            refine AllReadyH.cons (o := _) rfl (fun K hK => ?_) ?_
            ·
              go_simp
              refine (Neg_fe u ru _).mono ?_
              rintro e x30 ⟨rfl, k⟩
              go_wp2_with fail
              refine hK.out _ _ (hHeld.trans1 k) (fun hHeld => ?_)
              replace c8 := c8.chg k (by simp)
              replace c7 := c7.chg k (by simp)
              clear k
              clear hK K
              try simp only [Act.put, List.setIfInBounds_toArray, List.set_cons_zero, List.set_cons_succ]
              refine wpAnyH_ready (rs := [8]) (by kernel_rfl) (by simp) ?_
              refine AllReadyH.cons (o := _) rfl (fun K hK => ?_) ?_
              ·
                rw [if_pos (by rfl)]
                refine wp_store_row 23 _ _ rfl (x28.heap.size) _ rfl rfl 23 _ c7 feInfo rfl (feC_one _) ?_
                refine hK.out _ _ (hHeld.setRowNew b7 _) (fun hHeld => ?_)
                replace c8 := c8.setRowOther ne78 (feC (gotf u v))
                replace c7 := c7.setRow (feC (gotf u v))
                clear hK K
                try simp only [Act.put, List.setIfInBounds_toArray, List.set_cons_zero, List.set_cons_succ]
                refine wpAnyH_ready (rs := [9]) (by kernel_rfl) (by simp) ?_
                refine AllReadyH.cons (o := _) rfl (fun K hK => ?_) ?_
                ·
                  rw [if_pos (by rfl)]
                  refine wp_store_row 23 _ _ rfl (v2.heap.size) _ rfl rfl 23 _ c8 feInfo rfl (feC_one _) ?_
                  refine hK.out _ _ (hHeld.setRowNew b8 _) (fun hHeld => ?_)
                  replace c7 := c7.setRowOther (Ne.symm ne78) (feC (-u % P))
                  replace c8 := c8.setRow (feC (-u % P))
                  clear hK K
                  try simp only [Act.put, List.setIfInBounds_toArray, List.set_cons_zero, List.set_cons_succ]
                  refine wpAnyH_done (by kernel_rfl) ?_ _
                  exact ⟨(x28.heap.size), (v2.heap.size), rfl, b7, b8, (Ne.symm ne78), c7, c8, hHeld⟩
                exact AllReadyH.nil
              exact AllReadyH.nil
            exact AllReadyH.nil
          exact AllReadyH.nil
        refine AllReadyH.cons (o := _) rfl (fun K hK => ?_) ?_
        ·
          go_simp
          have b7 : v2.heap.size ≤ x27.heap.size := by have h := hHeld.size; simpa using h
          have c7 : Blk (x27.alloc (.cells z32 23)) (x27.heap.size) z32 23 := by have h := Blk.new x27 z32 23; simpa using h
          have ne78 : (v2.heap.size) ≠ x27.heap.size := by have h := c8.lt; first | omega | (simp at h; omega)
          replace c8 : Blk (x27.alloc (.cells z32 23)) ((v2.heap.size)) z32 23 := c8.alloc _
          refine hK.out _ _ (hHeld.alloc _) (fun hHeld => ?_)
          clear hK K
          try simp only [Act.put, List.setIfInBounds_toArray, List.set_cons_zero, List.set_cons_succ]
          refine wpAnyH_ready (rs := [3]) (by kernel_rfl) (by simp) ?_
          refine AllReadyH.cons (o := _) rfl (fun K hK => ?_) ?_
          ·
            go_simp
            refine (Mul_fe v ((rc u v) * (rc u v) % P) rv (r256_mod _) _).mono ?_
            rintro e x31 ⟨rfl, k⟩
            go_wp2_with fail
            refine hK.out _ _ (hHeld.trans1 k) (fun hHeld => ?_)
            replace c8 := c8.chg k (by simp)
            replace c7 := c7.chg k (by simp)
            clear k
            clear hK K
            try simp only [Act.put, List.setIfInBounds_toArray, List.set_cons_zero, List.set_cons_succ]
            refine wpAnyH_ready (rs := [5]) (by kernel_rfl) (by simp) ?_
            refine AllReadyH.cons (o := _) rfl (fun K hK => ?_) ?_
            ·
              go_simp
              refine (Neg_fe u ru _).mono ?_
              rintro e x32 ⟨rfl, k⟩
              go_wp2_with fail
              refine hK.out _ _ (hHeld.trans1 k) (fun hHeld => ?_)
              replace c8 := c8.chg k (by simp)
              replace c7 := c7.chg k (by simp)
              clear k
              clear hK K
              try simp only [Act.put, List.setIfInBounds_toArray, List.set_cons_zero, List.set_cons_succ]
              refine wpAnyH_ready (rs := [8]) (by kernel_rfl) (by simp) ?_
              refine AllReadyH.cons (o := _) rfl (fun K hK => ?_) ?_
              ·
                rw [if_pos (by rfl)]
                refine wp_store_row 23 _ _ rfl (x27.heap.size) _ rfl rfl 23 _ c7 feInfo rfl (feC_one _) ?_
                refine hK.out _ _ (hHeld.setRowNew b7 _) (fun hHeld => ?_)
                replace c8 := c8.setRowOther ne78 (feC (gotf u v))
                replace c7 := c7.setRow (feC (gotf u v))
                clear hK K
                try simp only [Act.put, List.setIfInBounds_toArray, List.set_cons_zero, List.set_cons_succ]
                refine wpAnyH_ready (rs := [9]) (by kernel_rfl) (by simp) ?_
                refine AllReadyH.cons (o := _) rfl (fun K hK => ?_) ?_
                ·
                  rw [if_pos (by rfl)]
                  refine wp_store_row 23 _ _ rfl (v2.heap.size) _ rfl rfl 23 _ c8 feInfo rfl (feC_one _) ?_
                  refine hK.out _ _ (hHeld.setRowNew b8 _) (fun hHeld => ?_)
                  replace c7 := c7.setRowOther (Ne.symm ne78) (feC (-u % P))
                  replace c8 := c8.setRow (feC (-u % P))
                  clear hK K
                  try simp only [Act.put, List.setIfInBounds_toArray, List.set_cons_zero, List.set_cons_succ]
                  refine wpAnyH_done (by kernel_rfl) ?_ _
                  exact ⟨(x27.heap.size), (v2.heap.size), rfl, b7, b8, (Ne.symm ne78), c7, c8, hHeld⟩
                exact AllReadyH.nil
              exact AllReadyH.nil
            exact AllReadyH.nil
          exact AllReadyH.nil
        exact AllReadyH.nil
      refine AllReadyH.cons (o := _) rfl (fun K hK => ?_) ?_
      ·
        go_simp
        have b7 : v2.heap.size ≤ v2.heap.size + 1 := by have h := hHeld.size; simpa using h
        have c7 : Blk ((v2.drew.alloc (.cells z32 23)).alloc (.cells z32 23)) (v2.heap.size + 1) z32 23 := by have h := Blk.new (v2.drew.alloc (.cells z32 23)) z32 23; simpa using h
        have ne78 : (v2.heap.size) ≠ v2.heap.size + 1 := by have h := c8.lt; first | omega | (simp at h; omega)
        replace c8 : Blk ((v2.drew.alloc (.cells z32 23)).alloc (.cells z32 23)) ((v2.heap.size)) z32 23 := c8.alloc _
        refine hK.out _ _ (hHeld.alloc _) (fun hHeld => ?_)
        clear hK K
        try simp only [Act.put, List.setIfInBounds_toArray, List.set_cons_zero, List.set_cons_succ]
        refine wpAnyH_ready (rs := [2]) (by kernel_rfl) (by simp) ?_
        refine AllReadyH.cons (o := _) rfl (fun K hK => ?_) ?_
        ·
          go_simp
          refine (Square_fe (rc u v) rr _).mono ?_
          rintro e x33 ⟨rfl, k⟩
          go_wp2_with fail
          refine hK.out _ _ (hHeld.trans1 k) (fun hHeld => ?_)
          replace c8 := c8.chg k (by simp)
          replace c7 := c7.chg k (by simp)
          clear k
          clear hK K
          try simp only [Act.put, List.setIfInBounds_toArray, List.set_cons_zero, List.set_cons_succ]
          refine wpAnyH_ready (rs := [3]) (by kernel_rfl) (by simp) ?_
          refine AllReadyH.cons (o := _) rfl (fun K hK => ?_) ?_
          ·
            go_simp
            refine (Mul_fe v ((rc u v) * (rc u v) % P) rv (r256_mod _) _).mono ?_
            rintro e x34 ⟨rfl, k⟩
            go_wp2_with fail
            refine hK.out _ _ (hHeld.trans1 k) (fun hHeld => ?_)
            replace c8 := c8.chg k (by simp)
            replace c7 := c7.chg k (by simp)
            clear k
            clear hK K
            try simp only [Act.put, List.setIfInBounds_toArray, List.set_cons_zero, List.set_cons_succ]
            refine wpAnyH_ready (rs := [5]) (by kernel_rfl) (by simp) ?_
            refine AllReadyH.cons (o := _) rfl (fun K hK => ?_) ?_
            ·
              go_simp
              refine (Neg_fe u ru _).mono ?_
              rintro e x35 ⟨rfl, k⟩
              go_wp2_with fail
              refine hK.out _ _ (hHeld.trans1 k) (fun hHeld => ?_)
              replace c8 := c8.chg k (by simp)
              replace c7 := c7.chg k (by simp)
              clear k
              clear hK K
              try simp only [Act.put, List.setIfInBounds_toArray, List.set_cons_zero, List.set_cons_succ]
              refine wpAnyH_ready (rs := [8]) (by kernel_rfl) (by simp) ?_
              refine AllReadyH.cons (o := _) rfl (fun K hK => ?_) ?_
              ·
                rw [if_pos (by rfl)]
                refine wp_store_row 23 _ _ rfl (v2.heap.size + 1) _ rfl rfl 23 _ c7 feInfo rfl (feC_one _) ?_
                refine hK.out _ _ (hHeld.setRowNew b7 _) (fun hHeld => ?_)
                replace c8 := c8.setRowOther ne78 (feC (gotf u v))
                replace c7 := c7.setRow (feC (gotf u v))
                clear hK K
                try simp only [Act.put, List.setIfInBounds_toArray, List.set_cons_zero, List.set_cons_succ]
                refine wpAnyH_ready (rs := [9]) (by kernel_rfl) (by simp) ?_
                refine AllReadyH.cons (o := _) rfl (fun K hK => ?_) ?_
                ·
                  rw [if_pos (by rfl)]
                  refine wp_store_row 23 _ _ rfl (v2.heap.size) _ rfl rfl 23 _ c8 feInfo rfl (feC_one _) ?_
                  refine hK.out _ _ (hHeld.setRowNew b8 _) (fun hHeld => ?_)
                  replace c7 := c7.setRowOther (Ne.symm ne78) (feC (-u % P))
                  replace c8 := c8.setRow (feC (-u % P))
                  clear hK K
                  try simp only [Act.put, List.setIfInBounds_toArray, List.set_cons_zero, List.set_cons_succ]
                  refine wpAnyH_done (by kernel_rfl) ?_ _
                  exact ⟨(v2.heap.size + 1), (v2.heap.size), rfl, b7, b8, (Ne.symm ne78), c7, c8, hHeld⟩
                exact AllReadyH.nil
              exact AllReadyH.nil
            exact AllReadyH.nil
          exact AllReadyH.nil
        exact AllReadyH.nil
      exact AllReadyH.nil
    exact AllReadyH.nil
  rintro a' v3 ⟨g7, g8, rfl, b7, b8, n78, P7, P8, K3⟩
  have P0 := B0.chg K3 (by simp)
  have P1 := B1.chg K3 (by simp)
  have P2 := B2.chg K3 (by simp)
  have P6 := B6.chg K3 (by simp)
  have C3 := CB.trans1 K3
  have rs1 := r256_S1
  have ro : R256 (-u % P) := r256_mod _
  clear B0 B1 B2 B6 CB K3
  have d26 : (w.heap.size + 1 + 1) ≠ g6 := by omega
  have d27 : (w.heap.size + 1 + 1) ≠ g7 := by omega
  have d28 : (w.heap.size + 1 + 1) ≠ g8 := by omega
  have d67 : g6 ≠ g7 := by omega
  have d68 : g6 ≠ g8 := by omega
  have d06 : w.heap.size ≠ g6 := by omega
  go_wp2_with fail
  cases hB1 : eqf (gotf u v) (-u % P)
  ·
    cases hB2 : eqf (gotf u v) (S1 * (-u % P) % P)
    ·
      cases hB3 : eqf (gotf u v) (u % P)
      · have HO : Hid (okf u v = false) := by show _ = _; simp [okf, hB1, hB3]
        have HR : Hid (rootf u v = (rc u v)) := by show _ = _; simp [rootf, fixf, hB1, hB2]
        refine wp_region_held_drew (S := fun w' => Chg v3 w' []) (by kernel_rfl) ((Chg.refl v3 _).drew) (fun hHeld => ?_)
        refine take_load 0 (some 18) (feC (gotf u v)) rfl (by kernel_rfl) (by kernel_rfl) (by kernel_rfl) (fun _ _ _ h => h) rfl rfl 23 _ rfl g7 rfl 23 _ (fun w h => P7.chg h (by simp)) Try.underlying23 rfl (by first | exact feInfo | kernel_rfl) hHeld ?_
        try simp only [Act.put, List.setIfInBounds_toArray, List.set_cons_zero, List.set_cons_succ]
        refine take_load 1 (some 19) (feC (-u % P)) rfl (by kernel_rfl) (by kernel_rfl) (by kernel_rfl) (fun _ _ _ h => h) rfl rfl 23 _ rfl g8 rfl 23 _ (fun w h => P8.chg h (by simp)) Try.underlying23 rfl (by first | exact feInfo | kernel_rfl) hHeld ?_
        try simp only [Act.put, List.setIfInBounds_toArray, List.set_cons_zero, List.set_cons_succ]
        refine take_val (v := (.bool false)) 2 (some 20) rfl (by kernel_rfl) (by kernel_rfl) (by kernel_rfl) (fun _ _ _ h => h) rfl rfl (fun w hSw => ?_) hHeld ?_
        · (go_simp; try with_reducible rfl)
        try simp only [Act.put, List.setIfInBounds_toArray, List.set_cons_zero, List.set_cons_succ]
        refine take_val (v := ?_) 3 (some 21) rfl (by kernel_rfl) (by kernel_rfl) (by kernel_rfl) (fun _ _ _ h => h) rfl rfl (fun w hSw => ?_) hHeld ?_
        rotate_left
        · (go_simp; try with_reducible rfl)
        try simp only [Act.put, List.setIfInBounds_toArray, List.set_cons_zero, List.set_cons_succ]
        refine take_load 4 (some 22) (feC (gotf u v)) rfl (by kernel_rfl) (by kernel_rfl) (by kernel_rfl) (fun _ _ _ h => h) rfl rfl 23 _ rfl g7 rfl 23 _ (fun w h => P7.chg h (by simp)) Try.underlying23 rfl (by first | exact feInfo | kernel_rfl) hHeld ?_
        try simp only [Act.put, List.setIfInBounds_toArray, List.set_cons_zero, List.set_cons_succ]
        refine take_load 6 (some 24) (feC (-u % P)) rfl (by kernel_rfl) (by kernel_rfl) (by kernel_rfl) (fun _ _ _ h => h) rfl rfl 23 _ rfl g8 rfl 23 _ (fun w h => P8.chg h (by simp)) Try.underlying23 rfl (by first | exact feInfo | kernel_rfl) hHeld ?_
        try simp only [Act.put, List.setIfInBounds_toArray, List.set_cons_zero, List.set_cons_succ]
        refine wpAnyH_ready (rs := [5]) (by kernel_rfl) (by simp) ?_
        refine AllReadyH.cons (o := _) rfl (fun K hK => ?_) ?_
        ·
          go_simp
          refine (SqrtM1_fe _).mono ?_
          rintro e y1 ⟨rfl, k⟩
          go_wp2_with fail
          refine hK.out _ _ (hHeld.trans1 k) (fun hHeld => ?_)
          clear hK K
          try simp only [Act.put, List.setIfInBounds_toArray, List.set_cons_zero, List.set_cons_succ]
          refine wpAnyH_ready (rs := [7]) (by kernel_rfl) (by simp) ?_
          refine AllReadyH.cons (o := _) rfl (fun K hK => ?_) ?_
          ·
            go_simp
            refine (Mul_fe S1 (-u % P) rs1 ro _).mono ?_
            rintro e y2 ⟨rfl, k⟩
            go_wp2_with fail
            refine hK.out _ _ (hHeld.trans1 k) (fun hHeld => ?_)
            clear hK K
            try simp only [Act.put, List.setIfInBounds_toArray, List.set_cons_zero, List.set_cons_succ]
            refine take_val (v := (.bool false)) 8 (some 26) rfl (by kernel_rfl) (by kernel_rfl) (by kernel_rfl) (fun _ _ _ h => h) rfl rfl (fun w hSw => ?_) hHeld ?_
            · (go_simp; try with_reducible rfl)
            try simp only [Act.put, List.setIfInBounds_toArray, List.set_cons_zero, List.set_cons_succ]
            refine take_val (v := ?_) 9 (some 27) rfl (by kernel_rfl) (by kernel_rfl) (by kernel_rfl) (fun _ _ _ h => h) rfl rfl (fun w hSw => ?_) hHeld ?_
            rotate_left
            · (go_simp; try with_reducible rfl)
            try simp only [Act.put, List.setIfInBounds_toArray, List.set_cons_zero, List.set_cons_succ]
            refine wpAnyH_done (by kernel_rfl) ?_ _
            obtain ⟨v4, hv4⟩ : ∃ x, x = y2 := ⟨_, rfl⟩
            rw [← hv4] at hHeld ⊢
            replace P0 := P0.chg hHeld (by simp)
            replace P2 := P2.chg hHeld (by simp)
            replace P6 := P6.chg hHeld (by simp)
            replace P7 := P7.chg hHeld (by simp)
            replace P8 := P8.chg hHeld (by simp)
            replace C3 := C3.trans1 hHeld
            clear hv4 hHeld k
            go_wp2_with fail
            have rroot := rr
            refine wp_region_held_drew (S := fun w' => Chg v4 w' [(w.heap.size + 1 + 1)]) (by kernel_rfl) ((Chg.refl v4 _).drew) (fun hHeld => ?_)
            refine take_load 0 (some 31) (feC (rc u v)) rfl (by kernel_rfl) (by kernel_rfl) (by kernel_rfl) (fun _ _ _ h => h) rfl rfl 23 _ rfl g6 rfl 23 _ (fun w h => P6.chg h (by simp <;> omega)) Try.underlying23 rfl (by first | exact feInfo | kernel_rfl) hHeld ?_
            try simp only [Act.put, List.setIfInBounds_toArray, List.set_cons_zero, List.set_cons_succ]
            refine take_load 2 (some 33) (feC (gotf u v)) rfl (by kernel_rfl) (by kernel_rfl) (by kernel_rfl) (fun _ _ _ h => h) rfl rfl 23 _ rfl g7 rfl 23 _ (fun w h => P7.chg h (by simp <;> omega)) Try.underlying23 rfl (by first | exact feInfo | kernel_rfl) hHeld ?_
            try simp only [Act.put, List.setIfInBounds_toArray, List.set_cons_zero, List.set_cons_succ]
            refine take_load 3 (some 34) (feC u) rfl (by kernel_rfl) (by kernel_rfl) (by kernel_rfl) (fun _ _ _ h => h) rfl rfl 23 _ rfl w.heap.size rfl 23 _ (fun w h => P0.chg h (by simp <;> omega)) Try.underlying23 rfl (by first | exact feInfo | kernel_rfl) hHeld ?_
            try simp only [Act.put, List.setIfInBounds_toArray, List.set_cons_zero, List.set_cons_succ]
            refine wpAnyH_ready (rs := [1]) (by kernel_rfl) (by simp) ?_
            refine AllReadyH.cons (o := _) rfl (fun K hK => ?_) ?_
            ·
              go_simp
              refine (Abs_fe (rc u v) rroot _).mono ?_
              rintro e va ⟨rfl, ka⟩
              go_wp2_with fail
              refine hK.out _ _ (hHeld.trans ka (by simp)) (fun hHeld => ?_)
              clear hK K
              try simp only [Act.put, List.setIfInBounds_toArray, List.set_cons_zero, List.set_cons_succ]
              refine wpAnyH_ready (rs := [4]) (by kernel_rfl) (by simp) ?_
              refine AllReadyH.cons (o := _) rfl (fun K hK => ?_) ?_
              ·
                go_simp
                refine (canonical_fe u ru _).mono ?_
                rintro e vb ⟨rfl, kb⟩
                go_wp2_with fail
                refine hK.out _ _ (hHeld.trans kb (by simp)) (fun hHeld => ?_)
                clear hK K
                try simp only [Act.put, List.setIfInBounds_toArray, List.set_cons_zero, List.set_cons_succ]
                refine take_val (v := (.bool false)) 5 (some 36) rfl (by kernel_rfl) (by kernel_rfl) (by kernel_rfl) (fun _ _ _ h => h) rfl rfl (fun w hSw => ?_) hHeld ?_
                · (go_simp; try with_reducible rfl)
                try simp only [Act.put, List.setIfInBounds_toArray, List.set_cons_zero, List.set_cons_succ]
                refine take_val (v := ?_) 6 (some 37) rfl (by kernel_rfl) (by kernel_rfl) (by kernel_rfl) (fun _ _ _ h => h) rfl rfl (fun w hSw => ?_) hHeld ?_
                rotate_left
                · (go_simp; try with_reducible rfl)
                try simp only [Act.put, List.setIfInBounds_toArray, List.set_cons_zero, List.set_cons_succ]
                refine take_load 7 (some 38) (feC (gotf u v)) rfl (by kernel_rfl) (by kernel_rfl) (by kernel_rfl) (fun _ _ _ h => h) rfl rfl 23 _ rfl g7 rfl 23 _ (fun w h => P7.chg h (by simp <;> omega)) Try.underlying23 rfl (by first | exact feInfo | kernel_rfl) hHeld ?_
                try simp only [Act.put, List.setIfInBounds_toArray, List.set_cons_zero, List.set_cons_succ]
                refine take_load 8 (some 39) (feC (-u % P)) rfl (by kernel_rfl) (by kernel_rfl) (by kernel_rfl) (fun _ _ _ h => h) rfl rfl 23 _ rfl g8 rfl 23 _ (fun w h => P8.chg h (by simp <;> omega)) Try.underlying23 rfl (by first | exact feInfo | kernel_rfl) hHeld ?_
                try simp only [Act.put, List.setIfInBounds_toArray, List.set_cons_zero, List.set_cons_succ]
                refine take_val (v := (.bool false)) 9 (some 40) rfl (by kernel_rfl) (by kernel_rfl) (by kernel_rfl) (fun _ _ _ h => h) rfl rfl (fun w hSw => ?_) hHeld ?_
                · (go_simp; try with_reducible rfl)
                try simp only [Act.put, List.setIfInBounds_toArray, List.set_cons_zero, List.set_cons_succ]
                refine take_val (v := ?_) 10 (some 41) rfl (by kernel_rfl) (by kernel_rfl) (by kernel_rfl) (fun _ _ _ h => h) rfl rfl (fun w hSw => ?_) hHeld ?_
                rotate_left
                · (go_simp; try with_reducible rfl)
                try simp only [Act.put, List.setIfInBounds_toArray, List.set_cons_zero, List.set_cons_succ]
                refine wpAnyH_ready (rs := [11]) (by kernel_rfl) (by simp) ?_
                refine AllReadyH.cons (o := _) rfl (fun K hK => ?_) ?_
                ·
                  have Q2 : Blk vb (w.heap.size + 1 + 1) z32 23 := ((P2.drew).chg ka (by simp)).chg kb (by simp)
                  have CF : Chg w vb [] := (C3.drew.trans1 ka).trans1 kb
                  rw [if_pos (by rfl)]
                  refine wp_store_row 23 _ _ rfl (w.heap.size + 1 + 1) _ rfl rfl 23 _ Q2 feInfo rfl (feC_one _) ?_
                  refine hK.out _ _ (hHeld.trans1 (Chg.of (gb_setRow (gb_refl vb _) _))) (fun hHeld => ?_)
                  clear hK K
                  try simp only [Act.put, List.setIfInBounds_toArray, List.set_cons_zero, List.set_cons_succ]
                  refine take_val (v := ?_) 12 (some 5) rfl (by kernel_rfl) (by kernel_rfl) (by kernel_rfl) (fun _ _ _ h => h) rfl rfl (fun w hSw => ?_) hHeld ?_
                  rotate_left
                  · (go_simp; try with_reducible rfl)
                  try simp only [Act.put, List.setIfInBounds_toArray, List.set_cons_zero, List.set_cons_succ]
                  refine wpAnyH_done (by kernel_rfl) ?_ _
                  go_wp2
                  refine bodyPost_ret (results_cell_tmp Try.results21 _ _ (w.heap.size + 1 + 1) 23 (feC (ab (rc u v))) _ (.bool false) rfl rfl (Blk.setRow Q2 _) Try.underlying23 rfl feInfo) rfl ⟨?_, CF.setRowNew (by omega) _⟩
                  rw [HR.out, HO.out]
                exact AllReadyH.nil
              exact AllReadyH.nil
            exact AllReadyH.nil
          exact AllReadyH.nil
        exact AllReadyH.nil
      · have HO : Hid (okf u v = true) := by show _ = _; simp [okf, hB1, hB3]
        have HR : Hid (rootf u v = (rc u v)) := by show _ = _; simp [rootf, fixf, hB1, hB2]
        refine wp_region_held_drew (S := fun w' => Chg v3 w' []) (by kernel_rfl) ((Chg.refl v3 _).drew) (fun hHeld => ?_)
        refine take_load 0 (some 18) (feC (gotf u v)) rfl (by kernel_rfl) (by kernel_rfl) (by kernel_rfl) (fun _ _ _ h => h) rfl rfl 23 _ rfl g7 rfl 23 _ (fun w h => P7.chg h (by simp)) Try.underlying23 rfl (by first | exact feInfo | kernel_rfl) hHeld ?_
        try simp only [Act.put, List.setIfInBounds_toArray, List.set_cons_zero, List.set_cons_succ]
        refine take_load 1 (some 19) (feC (-u % P)) rfl (by kernel_rfl) (by kernel_rfl) (by kernel_rfl) (fun _ _ _ h => h) rfl rfl 23 _ rfl g8 rfl 23 _ (fun w h => P8.chg h (by simp)) Try.underlying23 rfl (by first | exact feInfo | kernel_rfl) hHeld ?_
        try simp only [Act.put, List.setIfInBounds_toArray, List.set_cons_zero, List.set_cons_succ]
        refine take_val (v := (.bool false)) 2 (some 20) rfl (by kernel_rfl) (by kernel_rfl) (by kernel_rfl) (fun _ _ _ h => h) rfl rfl (fun w hSw => ?_) hHeld ?_
        · (go_simp; try with_reducible rfl)
        try simp only [Act.put, List.setIfInBounds_toArray, List.set_cons_zero, List.set_cons_succ]
        refine take_val (v := ?_) 3 (some 21) rfl (by kernel_rfl) (by kernel_rfl) (by kernel_rfl) (fun _ _ _ h => h) rfl rfl (fun w hSw => ?_) hHeld ?_
        rotate_left
        · (go_simp; try with_reducible rfl)
        try simp only [Act.put, List.setIfInBounds_toArray, List.set_cons_zero, List.set_cons_succ]
        refine take_load 4 (some 22) (feC (gotf u v)) rfl (by kernel_rfl) (by kernel_rfl) (by kernel_rfl) (fun _ _ _ h => h) rfl rfl 23 _ rfl g7 rfl 23 _ (fun w h => P7.chg h (by simp)) Try.underlying23 rfl (by first | exact feInfo | kernel_rfl) hHeld ?_
        try simp only [Act.put, List.setIfInBounds_toArray, List.set_cons_zero, List.set_cons_succ]
        refine take_load 6 (some 24) (feC (-u % P)) rfl (by kernel_rfl) (by kernel_rfl) (by kernel_rfl) (fun _ _ _ h => h) rfl rfl 23 _ rfl g8 rfl 23 _ (fun w h => P8.chg h (by simp)) Try.underlying23 rfl (by first | exact feInfo | kernel_rfl) hHeld ?_
        try simp only [Act.put, List.setIfInBounds_toArray, List.set_cons_zero, List.set_cons_succ]
        refine wpAnyH_ready (rs := [5]) (by kernel_rfl) (by simp) ?_
        refine AllReadyH.cons (o := _) rfl (fun K hK => ?_) ?_
        ·
          go_simp
          refine (SqrtM1_fe _).mono ?_
          rintro e y1 ⟨rfl, k⟩
          go_wp2_with fail
          refine hK.out _ _ (hHeld.trans1 k) (fun hHeld => ?_)
          clear hK K
          try simp only [Act.put, List.setIfInBounds_toArray, List.set_cons_zero, List.set_cons_succ]
          refine wpAnyH_ready (rs := [7]) (by kernel_rfl) (by simp) ?_
          refine AllReadyH.cons (o := _) rfl (fun K hK => ?_) ?_
          ·
            go_simp
            refine (Mul_fe S1 (-u % P) rs1 ro _).mono ?_
            rintro e y2 ⟨rfl, k⟩
            go_wp2_with fail
            refine hK.out _ _ (hHeld.trans1 k) (fun hHeld => ?_)
            clear hK K
            try simp only [Act.put, List.setIfInBounds_toArray, List.set_cons_zero, List.set_cons_succ]
            refine take_val (v := (.bool false)) 8 (some 26) rfl (by kernel_rfl) (by kernel_rfl) (by kernel_rfl) (fun _ _ _ h => h) rfl rfl (fun w hSw => ?_) hHeld ?_
            · (go_simp; try with_reducible rfl)
            try simp only [Act.put, List.setIfInBounds_toArray, List.set_cons_zero, List.set_cons_succ]
            refine take_val (v := ?_) 9 (some 27) rfl (by kernel_rfl) (by kernel_rfl) (by kernel_rfl) (fun _ _ _ h => h) rfl rfl (fun w hSw => ?_) hHeld ?_
            rotate_left
            · (go_simp; try with_reducible rfl)
            try simp only [Act.put, List.setIfInBounds_toArray, List.set_cons_zero, List.set_cons_succ]
            refine wpAnyH_done (by kernel_rfl) ?_ _
            obtain ⟨v4, hv4⟩ : ∃ x, x = y2 := ⟨_, rfl⟩
            rw [← hv4] at hHeld ⊢
            replace P0 := P0.chg hHeld (by simp)
            replace P2 := P2.chg hHeld (by simp)
            replace P6 := P6.chg hHeld (by simp)
            replace P7 := P7.chg hHeld (by simp)
            replace P8 := P8.chg hHeld (by simp)
            replace C3 := C3.trans1 hHeld
            clear hv4 hHeld k
            go_wp2_with fail
            have rroot := rr
            refine wp_region_held_drew (S := fun w' => Chg v4 w' [(w.heap.size + 1 + 1)]) (by kernel_rfl) ((Chg.refl v4 _).drew) (fun hHeld => ?_)
            refine take_load 0 (some 31) (feC (rc u v)) rfl (by kernel_rfl) (by kernel_rfl) (by kernel_rfl) (fun _ _ _ h => h) rfl rfl 23 _ rfl g6 rfl 23 _ (fun w h => P6.chg h (by simp <;> omega)) Try.underlying23 rfl (by first | exact feInfo | kernel_rfl) hHeld ?_
            try simp only [Act.put, List.setIfInBounds_toArray, List.set_cons_zero, List.set_cons_succ]
            refine take_load 2 (some 33) (feC (gotf u v)) rfl (by kernel_rfl) (by kernel_rfl) (by kernel_rfl) (fun _ _ _ h => h) rfl rfl 23 _ rfl g7 rfl 23 _ (fun w h => P7.chg h (by simp <;> omega)) Try.underlying23 rfl (by first | exact feInfo | kernel_rfl) hHeld ?_
            try simp only [Act.put, List.setIfInBounds_toArray, List.set_cons_zero, List.set_cons_succ]
            refine take_load 3 (some 34) (feC u) rfl (by kernel_rfl) (by kernel_rfl) (by kernel_rfl) (fun _ _ _ h => h) rfl rfl 23 _ rfl w.heap.size rfl 23 _ (fun w h => P0.chg h (by simp <;> omega)) Try.underlying23 rfl (by first | exact feInfo | kernel_rfl) hHeld ?_
            try simp only [Act.put, List.setIfInBounds_toArray, List.set_cons_zero, List.set_cons_succ]
            refine wpAnyH_ready (rs := [1]) (by kernel_rfl) (by simp) ?_
            refine AllReadyH.cons (o := _) rfl (fun K hK => ?_) ?_
            ·
              go_simp
              refine (Abs_fe (rc u v) rroot _).mono ?_
              rintro e va ⟨rfl, ka⟩
              go_wp2_with fail
              refine hK.out _ _ (hHeld.trans ka (by simp)) (fun hHeld => ?_)
              clear hK K
              try simp only [Act.put, List.setIfInBounds_toArray, List.set_cons_zero, List.set_cons_succ]
              refine wpAnyH_ready (rs := [4]) (by kernel_rfl) (by simp) ?_
              refine AllReadyH.cons (o := _) rfl (fun K hK => ?_) ?_
              ·
                go_simp
                refine (canonical_fe u ru _).mono ?_
                rintro e vb ⟨rfl, kb⟩
                go_wp2_with fail
                refine hK.out _ _ (hHeld.trans kb (by simp)) (fun hHeld => ?_)
                clear hK K
                try simp only [Act.put, List.setIfInBounds_toArray, List.set_cons_zero, List.set_cons_succ]
                refine take_val (v := (.bool true)) 5 (some 36) rfl (by kernel_rfl) (by kernel_rfl) (by kernel_rfl) (fun _ _ _ h => h) rfl rfl (fun w hSw => ?_) hHeld ?_
                · (go_simp; try with_reducible rfl)
                try simp only [Act.put, List.setIfInBounds_toArray, List.set_cons_zero, List.set_cons_succ]
                refine take_val (v := ?_) 6 (some 37) rfl (by kernel_rfl) (by kernel_rfl) (by kernel_rfl) (fun _ _ _ h => h) rfl rfl (fun w hSw => ?_) hHeld ?_
                rotate_left
                · (go_simp; try with_reducible rfl)
                try simp only [Act.put, List.setIfInBounds_toArray, List.set_cons_zero, List.set_cons_succ]
                refine take_no 7 (some 38) rfl (by kernel_rfl) (by kernel_rfl) (by kernel_rfl) (fun _ _ _ h => h) rfl rfl hHeld ?_
                try simp only [Act.put, List.setIfInBounds_toArray, List.set_cons_zero, List.set_cons_succ]
                refine take_no 8 (some 39) rfl (by kernel_rfl) (by kernel_rfl) (by kernel_rfl) (fun _ _ _ h => h) rfl rfl hHeld ?_
                try simp only [Act.put, List.setIfInBounds_toArray, List.set_cons_zero, List.set_cons_succ]
                refine take_no 9 (some 40) rfl (by kernel_rfl) (by kernel_rfl) (by kernel_rfl) (fun _ _ _ h => h) rfl rfl hHeld ?_
                try simp only [Act.put, List.setIfInBounds_toArray, List.set_cons_zero, List.set_cons_succ]
                refine take_val (v := ?_) 10 (some 41) rfl (by kernel_rfl) (by kernel_rfl) (by kernel_rfl) (fun _ _ _ h => h) rfl rfl (fun w hSw => ?_) hHeld ?_
                rotate_left
                · (go_simp; try with_reducible rfl)
                try simp only [Act.put, List.setIfInBounds_toArray, List.set_cons_zero, List.set_cons_succ]
                refine wpAnyH_ready (rs := [11]) (by kernel_rfl) (by simp) ?_
                refine AllReadyH.cons (o := _) rfl (fun K hK => ?_) ?_
                ·
                  have Q2 : Blk vb (w.heap.size + 1 + 1) z32 23 := ((P2.drew).chg ka (by simp)).chg kb (by simp)
                  have CF : Chg w vb [] := (C3.drew.trans1 ka).trans1 kb
                  rw [if_pos (by rfl)]
                  refine wp_store_row 23 _ _ rfl (w.heap.size + 1 + 1) _ rfl rfl 23 _ Q2 feInfo rfl (feC_one _) ?_
                  refine hK.out _ _ (hHeld.trans1 (Chg.of (gb_setRow (gb_refl vb _) _))) (fun hHeld => ?_)
                  clear hK K
                  try simp only [Act.put, List.setIfInBounds_toArray, List.set_cons_zero, List.set_cons_succ]
                  refine take_val (v := ?_) 12 (some 5) rfl (by kernel_rfl) (by kernel_rfl) (by kernel_rfl) (fun _ _ _ h => h) rfl rfl (fun w hSw => ?_) hHeld ?_
                  rotate_left
                  · (go_simp; try with_reducible rfl)
                  try simp only [Act.put, List.setIfInBounds_toArray, List.set_cons_zero, List.set_cons_succ]
                  refine wpAnyH_done (by kernel_rfl) ?_ _
                  go_wp2
                  refine bodyPost_ret (results_cell_tmp Try.results21 _ _ (w.heap.size + 1 + 1) 23 (feC (ab (rc u v))) _ (.bool true) rfl rfl (Blk.setRow Q2 _) Try.underlying23 rfl feInfo) rfl ⟨?_, CF.setRowNew (by omega) _⟩
                  rw [HR.out, HO.out]
                exact AllReadyH.nil
              exact AllReadyH.nil
            exact AllReadyH.nil
          exact AllReadyH.nil
        exact AllReadyH.nil
    ·
      cases hB3 : eqf (gotf u v) (u % P)
      · have HO : Hid (okf u v = false) := by show _ = _; simp [okf, hB1, hB3]
        have HR : Hid (rootf u v = S1 * (rc u v) % P) := by show _ = _; simp [rootf, fixf, hB1, hB2]
        refine wp_region_held_drew (S := fun w' => Chg v3 w' []) (by kernel_rfl) ((Chg.refl v3 _).drew) (fun hHeld => ?_)
        refine take_load 0 (some 18) (feC (gotf u v)) rfl (by kernel_rfl) (by kernel_rfl) (by kernel_rfl) (fun _ _ _ h => h) rfl rfl 23 _ rfl g7 rfl 23 _ (fun w h => P7.chg h (by simp)) Try.underlying23 rfl (by first | exact feInfo | kernel_rfl) hHeld ?_
        try simp only [Act.put, List.setIfInBounds_toArray, List.set_cons_zero, List.set_cons_succ]
        refine take_load 1 (some 19) (feC (-u % P)) rfl (by kernel_rfl) (by kernel_rfl) (by kernel_rfl) (fun _ _ _ h => h) rfl rfl 23 _ rfl g8 rfl 23 _ (fun w h => P8.chg h (by simp)) Try.underlying23 rfl (by first | exact feInfo | kernel_rfl) hHeld ?_
        try simp only [Act.put, List.setIfInBounds_toArray, List.set_cons_zero, List.set_cons_succ]
        refine take_val (v := (.bool false)) 2 (some 20) rfl (by kernel_rfl) (by kernel_rfl) (by kernel_rfl) (fun _ _ _ h => h) rfl rfl (fun w hSw => ?_) hHeld ?_
        · (go_simp; try with_reducible rfl)
        try simp only [Act.put, List.setIfInBounds_toArray, List.set_cons_zero, List.set_cons_succ]
        refine take_val (v := ?_) 3 (some 21) rfl (by kernel_rfl) (by kernel_rfl) (by kernel_rfl) (fun _ _ _ h => h) rfl rfl (fun w hSw => ?_) hHeld ?_
        rotate_left
        · (go_simp; try with_reducible rfl)
        try simp only [Act.put, List.setIfInBounds_toArray, List.set_cons_zero, List.set_cons_succ]
        refine take_load 4 (some 22) (feC (gotf u v)) rfl (by kernel_rfl) (by kernel_rfl) (by kernel_rfl) (fun _ _ _ h => h) rfl rfl 23 _ rfl g7 rfl 23 _ (fun w h => P7.chg h (by simp)) Try.underlying23 rfl (by first | exact feInfo | kernel_rfl) hHeld ?_
        try simp only [Act.put, List.setIfInBounds_toArray, List.set_cons_zero, List.set_cons_succ]
        refine take_load 6 (some 24) (feC (-u % P)) rfl (by kernel_rfl) (by kernel_rfl) (by kernel_rfl) (fun _ _ _ h => h) rfl rfl 23 _ rfl g8 rfl 23 _ (fun w h => P8.chg h (by simp)) Try.underlying23 rfl (by first | exact feInfo | kernel_rfl) hHeld ?_
        try simp only [Act.put, List.setIfInBounds_toArray, List.set_cons_zero, List.set_cons_succ]
        refine wpAnyH_ready (rs := [5]) (by kernel_rfl) (by simp) ?_
        refine AllReadyH.cons (o := _) rfl (fun K hK => ?_) ?_
        ·
          go_simp
          refine (SqrtM1_fe _).mono ?_
          rintro e y1 ⟨rfl, k⟩
          go_wp2_with fail
          refine hK.out _ _ (hHeld.trans1 k) (fun hHeld => ?_)
          clear hK K
          try simp only [Act.put, List.setIfInBounds_toArray, List.set_cons_zero, List.set_cons_succ]
          refine wpAnyH_ready (rs := [7]) (by kernel_rfl) (by simp) ?_
          refine AllReadyH.cons (o := _) rfl (fun K hK => ?_) ?_
          ·
            go_simp
            refine (Mul_fe S1 (-u % P) rs1 ro _).mono ?_
            rintro e y2 ⟨rfl, k⟩
            go_wp2_with fail
            refine hK.out _ _ (hHeld.trans1 k) (fun hHeld => ?_)
            clear hK K
            try simp only [Act.put, List.setIfInBounds_toArray, List.set_cons_zero, List.set_cons_succ]
            refine take_val (v := (.bool true)) 8 (some 26) rfl (by kernel_rfl) (by kernel_rfl) (by kernel_rfl) (fun _ _ _ h => h) rfl rfl (fun w hSw => ?_) hHeld ?_
            · (go_simp; try with_reducible rfl)
            try simp only [Act.put, List.setIfInBounds_toArray, List.set_cons_zero, List.set_cons_succ]
            refine take_val (v := ?_) 9 (some 27) rfl (by kernel_rfl) (by kernel_rfl) (by kernel_rfl) (fun _ _ _ h => h) rfl rfl (fun w hSw => ?_) hHeld ?_
            rotate_left
            · (go_simp; try with_reducible rfl)
            try simp only [Act.put, List.setIfInBounds_toArray, List.set_cons_zero, List.set_cons_succ]
            refine wpAnyH_done (by kernel_rfl) ?_ _
            obtain ⟨v4, hv4⟩ : ∃ x, x = y2 := ⟨_, rfl⟩
            rw [← hv4] at hHeld ⊢
            replace P0 := P0.chg hHeld (by simp)
            replace P2 := P2.chg hHeld (by simp)
            replace P6 := P6.chg hHeld (by simp)
            replace P7 := P7.chg hHeld (by simp)
            replace P8 := P8.chg hHeld (by simp)
            replace C3 := C3.trans1 hHeld
            clear hv4 hHeld k
            go_wp2_with fail
            refine region_cut (fun a' w' => a' = ⟨#[fe u, fe v, .pointer (some ⟨w.heap.size, 0, none⟩), .pointer (some ⟨(w.heap.size + 1), 0, none⟩), .pointer (some ⟨(w.heap.size + 1 + 1), 0, none⟩), .bool false, .pointer (some ⟨g6, 0, none⟩), .pointer (some ⟨g7, 0, none⟩), .pointer (some ⟨g8, 0, none⟩), .agg (feC u), .agg (feC v), fe (rc u v), .agg (feC v), .agg (feC (rc u v)), fe ((rc u v) * (rc u v) % P), fe (gotf u v), .agg (feC u), fe (-u % P), .agg (feC (gotf u v)), .agg (feC (-u % P)), .bool false, .bool false, .agg (feC (gotf u v)), fe S1, .agg (feC (-u % P)), fe (S1 * (-u % P) % P), .bool true, .bool true, fe S1, .agg (feC (rc u v)), fe (S1 * (rc u v) % P), undef, undef, undef, undef, undef, undef, undef, undef, undef, undef, undef], []⟩ ∧ Blk w' g6 (feC (S1 * (rc u v) % P)) 23 ∧ Chg v4 w' [g6] ∧ Chg w w' []) ?_ ?_
            ·
              refine wp_region_held_drew (S := fun w' => Chg v4 w' [g6]) (by kernel_rfl) ((Chg.refl v4 _).drew) (fun hHeld => ?_)
              refine wpAnyH_ready (rs := [0, 1]) (by kernel_rfl) (by simp) ?_
              refine AllReadyH.cons (o := _) rfl (fun K hK => ?_) ?_
              ·
                go_simp
                refine (SqrtM1_fe _).mono ?_
                rintro e z1 ⟨rfl, kz⟩
                go_wp2_with fail
                refine hK.out _ _ (hHeld.trans kz (by simp)) (fun hHeld => ?_)
                clear hK K
                try simp only [Act.put, List.setIfInBounds_toArray, List.set_cons_zero, List.set_cons_succ]
                refine wpAnyH_ready (rs := [1]) (by kernel_rfl) (by simp) ?_
                refine AllReadyH.cons (o := _) rfl (fun K hK => ?_) ?_
                ·
                  rw [if_pos (by rfl)]
                  refine wp_load_row 23 _ rfl g6 rfl 23 (feC (rc u v)) (0, 0) _ (by first | exact P6.drew | exact (P6.drew).chg kz (by simp)) Try.underlying23 rfl feInfo ?_
                  refine hK.out _ _ (hHeld) (fun hHeld => ?_)
                  clear hK K
                  try simp only [Act.put, List.setIfInBounds_toArray, List.set_cons_zero, List.set_cons_succ]
                  refine wpAnyH_ready (rs := [2]) (by kernel_rfl) (by simp) ?_
                  refine AllReadyH.cons (o := _) rfl (fun K hK => ?_) ?_
                  ·
                    go_simp
                    refine (Mul_fe S1 (rc u v) rs1 rr _).mono ?_
                    rintro e z2 ⟨rfl, ky⟩
                    go_wp2_with fail
                    refine hK.out _ _ (hHeld.trans ky (by simp)) (fun hHeld => ?_)
                    clear hK K
                    try simp only [Act.put, List.setIfInBounds_toArray, List.set_cons_zero, List.set_cons_succ]
                    refine wpAnyH_ready (rs := [3]) (by kernel_rfl) (by simp) ?_
                    refine AllReadyH.cons (o := _) rfl (fun K hK => ?_) ?_
                    ·
                      have Q6 : Blk z2 g6 (feC (rc u v)) 23 := ((P6.drew).chg kz (by simp)).chg ky (by simp)
                      have CG : Chg w z2 [] := (C3.drew.trans1 kz).trans1 ky
                      rw [if_pos (by rfl)]
                      refine wp_store_row 23 _ _ rfl g6 _ rfl rfl 23 _ Q6 feInfo rfl (feC_one _) ?_
                      refine hK.out _ _ (hHeld.trans1 (Chg.of (gb_setRow (gb_refl z2 _) _))) (fun hHeld => ?_)
                      clear hK K
                      try simp only [Act.put, List.setIfInBounds_toArray, List.set_cons_zero, List.set_cons_succ]
                      refine wpAnyH_done (by kernel_rfl) ?_ _
                      exact ⟨rfl, Q6.setRow _, hHeld, CG.setRowNew (by omega) _⟩
                    exact AllReadyH.nil
                  exact AllReadyH.nil
                exact AllReadyH.nil
              refine AllReadyH.cons (o := _) rfl (fun K hK => ?_) ?_
              ·
                rw [if_pos (by rfl)]
                refine wp_load_row 23 _ rfl g6 rfl 23 (feC (rc u v)) (0, 0) _ (by first | exact P6.drew | exact (P6.drew).chg kz (by simp)) Try.underlying23 rfl feInfo ?_
                refine hK.out _ _ (hHeld) (fun hHeld => ?_)
                clear hK K
                try simp only [Act.put, List.setIfInBounds_toArray, List.set_cons_zero, List.set_cons_succ]
                refine wpAnyH_ready (rs := [0]) (by kernel_rfl) (by simp) ?_
                refine AllReadyH.cons (o := _) rfl (fun K hK => ?_) ?_
                ·
                  go_simp
                  refine (SqrtM1_fe _).mono ?_
                  rintro e z1 ⟨rfl, kz⟩
                  go_wp2_with fail
                  refine hK.out _ _ (hHeld.trans kz (by simp)) (fun hHeld => ?_)
                  clear hK K
                  try simp only [Act.put, List.setIfInBounds_toArray, List.set_cons_zero, List.set_cons_succ]
                  refine wpAnyH_ready (rs := [2]) (by kernel_rfl) (by simp) ?_
                  refine AllReadyH.cons (o := _) rfl (fun K hK => ?_) ?_
                  ·
                    go_simp
                    refine (Mul_fe S1 (rc u v) rs1 rr _).mono ?_
                    rintro e z2 ⟨rfl, ky⟩
                    go_wp2_with fail
                    refine hK.out _ _ (hHeld.trans ky (by simp)) (fun hHeld => ?_)
                    clear hK K
                    try simp only [Act.put, List.setIfInBounds_toArray, List.set_cons_zero, List.set_cons_succ]
                    refine wpAnyH_ready (rs := [3]) (by kernel_rfl) (by simp) ?_
                    refine AllReadyH.cons (o := _) rfl (fun K hK => ?_) ?_
                    ·
                      have Q6 : Blk z2 g6 (feC (rc u v)) 23 := ((P6.drew).chg kz (by simp)).chg ky (by simp)
                      have CG : Chg w z2 [] := (C3.drew.trans1 kz).trans1 ky
                      rw [if_pos (by rfl)]
                      refine wp_store_row 23 _ _ rfl g6 _ rfl rfl 23 _ Q6 feInfo rfl (feC_one _) ?_
                      refine hK.out _ _ (hHeld.trans1 (Chg.of (gb_setRow (gb_refl z2 _) _))) (fun hHeld => ?_)
                      clear hK K
                      try simp only [Act.put, List.setIfInBounds_toArray, List.set_cons_zero, List.set_cons_succ]
                      refine wpAnyH_done (by kernel_rfl) ?_ _
                      exact ⟨rfl, Q6.setRow _, hHeld, CG.setRowNew (by omega) _⟩
                    exact AllReadyH.nil
                  exact AllReadyH.nil
                exact AllReadyH.nil
              exact AllReadyH.nil
            rintro a' v5 ⟨rfl, Q6, K5, CG⟩
            replace P0 := P0.chg K5 (by simp <;> omega)
            replace P2 := P2.chg K5 (by simp <;> omega)
            replace P7 := P7.chg K5 (by simp <;> omega)
            replace P8 := P8.chg K5 (by simp <;> omega)
            clear P6 C3 K5
            have P6 := Q6
            have C3 := CG
            clear Q6 CG
            have rroot : R256 (S1 * (rc u v) % P) := r256_mod _
            go_wp2_with fail
            refine wp_region_held_drew (S := fun w' => Chg v5 w' [(w.heap.size + 1 + 1)]) (by kernel_rfl) ((Chg.refl v5 _).drew) (fun hHeld => ?_)
            refine take_load 0 (some 31) (feC (S1 * (rc u v) % P)) rfl (by kernel_rfl) (by kernel_rfl) (by kernel_rfl) (fun _ _ _ h => h) rfl rfl 23 _ rfl g6 rfl 23 _ (fun w h => P6.chg h (by simp <;> omega)) Try.underlying23 rfl (by first | exact feInfo | kernel_rfl) hHeld ?_
            try simp only [Act.put, List.setIfInBounds_toArray, List.set_cons_zero, List.set_cons_succ]
            refine take_load 2 (some 33) (feC (gotf u v)) rfl (by kernel_rfl) (by kernel_rfl) (by kernel_rfl) (fun _ _ _ h => h) rfl rfl 23 _ rfl g7 rfl 23 _ (fun w h => P7.chg h (by simp <;> omega)) Try.underlying23 rfl (by first | exact feInfo | kernel_rfl) hHeld ?_
            try simp only [Act.put, List.setIfInBounds_toArray, List.set_cons_zero, List.set_cons_succ]
            refine take_load 3 (some 34) (feC u) rfl (by kernel_rfl) (by kernel_rfl) (by kernel_rfl) (fun _ _ _ h => h) rfl rfl 23 _ rfl w.heap.size rfl 23 _ (fun w h => P0.chg h (by simp <;> omega)) Try.underlying23 rfl (by first | exact feInfo | kernel_rfl) hHeld ?_
            try simp only [Act.put, List.setIfInBounds_toArray, List.set_cons_zero, List.set_cons_succ]
            refine wpAnyH_ready (rs := [1]) (by kernel_rfl) (by simp) ?_
            refine AllReadyH.cons (o := _) rfl (fun K hK => ?_) ?_
            ·
              go_simp
              refine (Abs_fe (S1 * (rc u v) % P) rroot _).mono ?_
              rintro e va ⟨rfl, ka⟩
              go_wp2_with fail
              refine hK.out _ _ (hHeld.trans ka (by simp)) (fun hHeld => ?_)
              clear hK K
              try simp only [Act.put, List.setIfInBounds_toArray, List.set_cons_zero, List.set_cons_succ]
              refine wpAnyH_ready (rs := [4]) (by kernel_rfl) (by simp) ?_
              refine AllReadyH.cons (o := _) rfl (fun K hK => ?_) ?_
              ·
                go_simp
                refine (canonical_fe u ru _).mono ?_
                rintro e vb ⟨rfl, kb⟩
                go_wp2_with fail
                refine hK.out _ _ (hHeld.trans kb (by simp)) (fun hHeld => ?_)
                clear hK K
                try simp only [Act.put, List.setIfInBounds_toArray, List.set_cons_zero, List.set_cons_succ]
                refine take_val (v := (.bool false)) 5 (some 36) rfl (by kernel_rfl) (by kernel_rfl) (by kernel_rfl) (fun _ _ _ h => h) rfl rfl (fun w hSw => ?_) hHeld ?_
                · (go_simp; try with_reducible rfl)
                try simp only [Act.put, List.setIfInBounds_toArray, List.set_cons_zero, List.set_cons_succ]
                refine take_val (v := ?_) 6 (some 37) rfl (by kernel_rfl) (by kernel_rfl) (by kernel_rfl) (fun _ _ _ h => h) rfl rfl (fun w hSw => ?_) hHeld ?_
                rotate_left
                · (go_simp; try with_reducible rfl)
                try simp only [Act.put, List.setIfInBounds_toArray, List.set_cons_zero, List.set_cons_succ]
                refine take_load 7 (some 38) (feC (gotf u v)) rfl (by kernel_rfl) (by kernel_rfl) (by kernel_rfl) (fun _ _ _ h => h) rfl rfl 23 _ rfl g7 rfl 23 _ (fun w h => P7.chg h (by simp <;> omega)) Try.underlying23 rfl (by first | exact feInfo | kernel_rfl) hHeld ?_
                try simp only [Act.put, List.setIfInBounds_toArray, List.set_cons_zero, List.set_cons_succ]
                refine take_load 8 (some 39) (feC (-u % P)) rfl (by kernel_rfl) (by kernel_rfl) (by kernel_rfl) (fun _ _ _ h => h) rfl rfl 23 _ rfl g8 rfl 23 _ (fun w h => P8.chg h (by simp <;> omega)) Try.underlying23 rfl (by first | exact feInfo | kernel_rfl) hHeld ?_
                try simp only [Act.put, List.setIfInBounds_toArray, List.set_cons_zero, List.set_cons_succ]
                refine take_val (v := (.bool false)) 9 (some 40) rfl (by kernel_rfl) (by kernel_rfl) (by kernel_rfl) (fun _ _ _ h => h) rfl rfl (fun w hSw => ?_) hHeld ?_
                · (go_simp; try with_reducible rfl)
                try simp only [Act.put, List.setIfInBounds_toArray, List.set_cons_zero, List.set_cons_succ]
                refine take_val (v := ?_) 10 (some 41) rfl (by kernel_rfl) (by kernel_rfl) (by kernel_rfl) (fun _ _ _ h => h) rfl rfl (fun w hSw => ?_) hHeld ?_
                rotate_left
                · (go_simp; try with_reducible rfl)
                try simp only [Act.put, List.setIfInBounds_toArray, List.set_cons_zero, List.set_cons_succ]
                refine wpAnyH_ready (rs := [11]) (by kernel_rfl) (by simp) ?_
                refine AllReadyH.cons (o := _) rfl (fun K hK => ?_) ?_
                ·
                  have Q2 : Blk vb (w.heap.size + 1 + 1) z32 23 := ((P2.drew).chg ka (by simp)).chg kb (by simp)
                  have CF : Chg w vb [] := (C3.drew.trans1 ka).trans1 kb
                  rw [if_pos (by rfl)]
                  refine wp_store_row 23 _ _ rfl (w.heap.size + 1 + 1) _ rfl rfl 23 _ Q2 feInfo rfl (feC_one _) ?_
                  refine hK.out _ _ (hHeld.trans1 (Chg.of (gb_setRow (gb_refl vb _) _))) (fun hHeld => ?_)
                  clear hK K
                  try simp only [Act.put, List.setIfInBounds_toArray, List.set_cons_zero, List.set_cons_succ]
                  refine take_val (v := ?_) 12 (some 5) rfl (by kernel_rfl) (by kernel_rfl) (by kernel_rfl) (fun _ _ _ h => h) rfl rfl (fun w hSw => ?_) hHeld ?_
                  rotate_left
                  · (go_simp; try with_reducible rfl)
                  try simp only [Act.put, List.setIfInBounds_toArray, List.set_cons_zero, List.set_cons_succ]
                  refine wpAnyH_done (by kernel_rfl) ?_ _
                  go_wp2
                  refine bodyPost_ret (results_cell_tmp Try.results21 _ _ (w.heap.size + 1 + 1) 23 (feC (ab (S1 * (rc u v) % P))) _ (.bool false) rfl rfl (Blk.setRow Q2 _) Try.underlying23 rfl feInfo) rfl ⟨?_, CF.setRowNew (by omega) _⟩
                  rw [HR.out, HO.out]
                exact AllReadyH.nil
              exact AllReadyH.nil
            exact AllReadyH.nil
          exact AllReadyH.nil
        exact AllReadyH.nil
      · have HO : Hid (okf u v = true) := by show _ = _; simp [okf, hB1, hB3]
        have HR : Hid (rootf u v = S1 * (rc u v) % P) := by show _ = _; simp [rootf, fixf, hB1, hB2]
        refine wp_region_held_drew (S := fun w' => Chg v3 w' []) (by kernel_rfl) ((Chg.refl v3 _).drew) (fun hHeld => ?_)
        refine take_load 0 (some 18) (feC (gotf u v)) rfl (by kernel_rfl) (by kernel_rfl) (by kernel_rfl) (fun _ _ _ h => h) rfl rfl 23 _ rfl g7 rfl 23 _ (fun w h => P7.chg h (by simp)) Try.underlying23 rfl (by first | exact feInfo | kernel_rfl) hHeld ?_
        try simp only [Act.put, List.setIfInBounds_toArray, List.set_cons_zero, List.set_cons_succ]
        refine take_load 1 (some 19) (feC (-u % P)) rfl (by kernel_rfl) (by kernel_rfl) (by kernel_rfl) (fun _ _ _ h => h) rfl rfl 23 _ rfl g8 rfl 23 _ (fun w h => P8.chg h (by simp)) Try.underlying23 rfl (by first | exact feInfo | kernel_rfl) hHeld ?_
        try simp only [Act.put, List.setIfInBounds_toArray, List.set_cons_zero, List.set_cons_succ]
        refine take_val (v := (.bool false)) 2 (some 20) rfl (by kernel_rfl) (by kernel_rfl) (by kernel_rfl) (fun _ _ _ h => h) rfl rfl (fun w hSw => ?_) hHeld ?_
        · (go_simp; try with_reducible rfl)
        try simp only [Act.put, List.setIfInBounds_toArray, List.set_cons_zero, List.set_cons_succ]
        refine take_val (v := ?_) 3 (some 21) rfl (by kernel_rfl) (by kernel_rfl) (by kernel_rfl) (fun _ _ _ h => h) rfl rfl (fun w hSw => ?_) hHeld ?_
        rotate_left
        · (go_simp; try with_reducible rfl)
        try simp only [Act.put, List.setIfInBounds_toArray, List.set_cons_zero, List.set_cons_succ]
        refine take_load 4 (some 22) (feC (gotf u v)) rfl (by kernel_rfl) (by kernel_rfl) (by kernel_rfl) (fun _ _ _ h => h) rfl rfl 23 _ rfl g7 rfl 23 _ (fun w h => P7.chg h (by simp)) Try.underlying23 rfl (by first | exact feInfo | kernel_rfl) hHeld ?_
        try simp only [Act.put, List.setIfInBounds_toArray, List.set_cons_zero, List.set_cons_succ]
        refine take_load 6 (some 24) (feC (-u % P)) rfl (by kernel_rfl) (by kernel_rfl) (by kernel_rfl) (fun _ _ _ h => h) rfl rfl 23 _ rfl g8 rfl 23 _ (fun w h => P8.chg h (by simp)) Try.underlying23 rfl (by first | exact feInfo | kernel_rfl) hHeld ?_
        try simp only [Act.put, List.setIfInBounds_toArray, List.set_cons_zero, List.set_cons_succ]
        refine wpAnyH_ready (rs := [5]) (by kernel_rfl) (by simp) ?_
        refine AllReadyH.cons (o := _) rfl (fun K hK => ?_) ?_
        ·
          go_simp
          refine (SqrtM1_fe _).mono ?_
          rintro e y1 ⟨rfl, k⟩
          go_wp2_with fail
          refine hK.out _ _ (hHeld.trans1 k) (fun hHeld => ?_)
          clear hK K
          try simp only [Act.put, List.setIfInBounds_toArray, List.set_cons_zero, List.set_cons_succ]
          refine wpAnyH_ready (rs := [7]) (by kernel_rfl) (by simp) ?_
          refine AllReadyH.cons (o := _) rfl (fun K hK => ?_) ?_
          ·
            go_simp
            refine (Mul_fe S1 (-u % P) rs1 ro _).mono ?_
            rintro e y2 ⟨rfl, k⟩
            go_wp2_with fail
            refine hK.out _ _ (hHeld.trans1 k) (fun hHeld => ?_)
            clear hK K
            try simp only [Act.put, List.setIfInBounds_toArray, List.set_cons_zero, List.set_cons_succ]
            refine take_val (v := (.bool true)) 8 (some 26) rfl (by kernel_rfl) (by kernel_rfl) (by kernel_rfl) (fun _ _ _ h => h) rfl rfl (fun w hSw => ?_) hHeld ?_
            · (go_simp; try with_reducible rfl)
            try simp only [Act.put, List.setIfInBounds_toArray, List.set_cons_zero, List.set_cons_succ]
            refine take_val (v := ?_) 9 (some 27) rfl (by kernel_rfl) (by kernel_rfl) (by kernel_rfl) (fun _ _ _ h => h) rfl rfl (fun w hSw => ?_) hHeld ?_
            rotate_left
            · (go_simp; try with_reducible rfl)
            try simp only [Act.put, List.setIfInBounds_toArray, List.set_cons_zero, List.set_cons_succ]
            refine wpAnyH_done (by kernel_rfl) ?_ _
            obtain ⟨v4, hv4⟩ : ∃ x, x = y2 := ⟨_, rfl⟩
            rw [← hv4] at hHeld ⊢
            replace P0 := P0.chg hHeld (by simp)
            replace P2 := P2.chg hHeld (by simp)
            replace P6 := P6.chg hHeld (by simp)
            replace P7 := P7.chg hHeld (by simp)
            replace P8 := P8.chg hHeld (by simp)
            replace C3 := C3.trans1 hHeld
            clear hv4 hHeld k
            go_wp2_with fail
            refine region_cut (fun a' w' => a' = ⟨#[fe u, fe v, .pointer (some ⟨w.heap.size, 0, none⟩), .pointer (some ⟨(w.heap.size + 1), 0, none⟩), .pointer (some ⟨(w.heap.size + 1 + 1), 0, none⟩), .bool false, .pointer (some ⟨g6, 0, none⟩), .pointer (some ⟨g7, 0, none⟩), .pointer (some ⟨g8, 0, none⟩), .agg (feC u), .agg (feC v), fe (rc u v), .agg (feC v), .agg (feC (rc u v)), fe ((rc u v) * (rc u v) % P), fe (gotf u v), .agg (feC u), fe (-u % P), .agg (feC (gotf u v)), .agg (feC (-u % P)), .bool false, .bool false, .agg (feC (gotf u v)), fe S1, .agg (feC (-u % P)), fe (S1 * (-u % P) % P), .bool true, .bool true, fe S1, .agg (feC (rc u v)), fe (S1 * (rc u v) % P), undef, undef, undef, undef, undef, undef, undef, undef, undef, undef, undef], []⟩ ∧ Blk w' g6 (feC (S1 * (rc u v) % P)) 23 ∧ Chg v4 w' [g6] ∧ Chg w w' []) ?_ ?_
            ·
              refine wp_region_held_drew (S := fun w' => Chg v4 w' [g6]) (by kernel_rfl) ((Chg.refl v4 _).drew) (fun hHeld => ?_)
              refine wpAnyH_ready (rs := [0, 1]) (by kernel_rfl) (by simp) ?_
              refine AllReadyH.cons (o := _) rfl (fun K hK => ?_) ?_
              ·
                go_simp
                refine (SqrtM1_fe _).mono ?_
                rintro e z1 ⟨rfl, kz⟩
                go_wp2_with fail
                refine hK.out _ _ (hHeld.trans kz (by simp)) (fun hHeld => ?_)
                clear hK K
                try simp only [Act.put, List.setIfInBounds_toArray, List.set_cons_zero, List.set_cons_succ]
                refine wpAnyH_ready (rs := [1]) (by kernel_rfl) (by simp) ?_
                refine AllReadyH.cons (o := _) rfl (fun K hK => ?_) ?_
                ·
                  rw [if_pos (by rfl)]
                  refine wp_load_row 23 _ rfl g6 rfl 23 (feC (rc u v)) (0, 0) _ (by first | exact P6.drew | exact (P6.drew).chg kz (by simp)) Try.underlying23 rfl feInfo ?_
                  refine hK.out _ _ (hHeld) (fun hHeld => ?_)
                  clear hK K
                  try simp only [Act.put, List.setIfInBounds_toArray, List.set_cons_zero, List.set_cons_succ]
                  refine wpAnyH_ready (rs := [2]) (by kernel_rfl) (by simp) ?_
                  refine AllReadyH.cons (o := _) rfl (fun K hK => ?_) ?_
                  ·
                    go_simp
                    refine (Mul_fe S1 (rc u v) rs1 rr _).mono ?_
                    rintro e z2 ⟨rfl, ky⟩
                    go_wp2_with fail
                    refine hK.out _ _ (hHeld.trans ky (by simp)) (fun hHeld => ?_)
                    clear hK K
                    try simp only [Act.put, List.setIfInBounds_toArray, List.set_cons_zero, List.set_cons_succ]
                    refine wpAnyH_ready (rs := [3]) (by kernel_rfl) (by simp) ?_
                    refine AllReadyH.cons (o := _) rfl (fun K hK => ?_) ?_
                    ·
                      have Q6 : Blk z2 g6 (feC (rc u v)) 23 := ((P6.drew).chg kz (by simp)).chg ky (by simp)
                      have CG : Chg w z2 [] := (C3.drew.trans1 kz).trans1 ky
                      rw [if_pos (by rfl)]
                      refine wp_store_row 23 _ _ rfl g6 _ rfl rfl 23 _ Q6 feInfo rfl (feC_one _) ?_
                      refine hK.out _ _ (hHeld.trans1 (Chg.of (gb_setRow (gb_refl z2 _) _))) (fun hHeld => ?_)
                      clear hK K
                      try simp only [Act.put, List.setIfInBounds_toArray, List.set_cons_zero, List.set_cons_succ]
                      refine wpAnyH_done (by kernel_rfl) ?_ _
                      exact ⟨rfl, Q6.setRow _, hHeld, CG.setRowNew (by omega) _⟩
                    exact AllReadyH.nil
                  exact AllReadyH.nil
                exact AllReadyH.nil
              refine AllReadyH.cons (o := _) rfl (fun K hK => ?_) ?_
              ·
                rw [if_pos (by rfl)]
                refine wp_load_row 23 _ rfl g6 rfl 23 (feC (rc u v)) (0, 0) _ (by first | exact P6.drew | exact (P6.drew).chg kz (by simp)) Try.underlying23 rfl feInfo ?_
                refine hK.out _ _ (hHeld) (fun hHeld => ?_)
                clear hK K
                try simp only [Act.put, List.setIfInBounds_toArray, List.set_cons_zero, List.set_cons_succ]
                refine wpAnyH_ready (rs := [0]) (by kernel_rfl) (by simp) ?_
                refine AllReadyH.cons (o := _) rfl (fun K hK => ?_) ?_
                ·
                  go_simp
                  refine (SqrtM1_fe _).mono ?_
                  rintro e z1 ⟨rfl, kz⟩
                  go_wp2_with fail
                  refine hK.out _ _ (hHeld.trans kz (by simp)) (fun hHeld => ?_)
                  clear hK K
                  try simp only [Act.put, List.setIfInBounds_toArray, List.set_cons_zero, List.set_cons_succ]
                  refine wpAnyH_ready (rs := [2]) (by kernel_rfl) (by simp) ?_
                  refine AllReadyH.cons (o := _) rfl (fun K hK => ?_) ?_
                  ·
                    go_simp
                    refine (Mul_fe S1 (rc u v) rs1 rr _).mono ?_
                    rintro e z2 ⟨rfl, ky⟩
                    go_wp2_with fail
                    refine hK.out _ _ (hHeld.trans ky (by simp)) (fun hHeld => ?_)
                    clear hK K
                    try simp only [Act.put, List.setIfInBounds_toArray, List.set_cons_zero, List.set_cons_succ]
                    refine wpAnyH_ready (rs := [3]) (by kernel_rfl) (by simp) ?_
                    refine AllReadyH.cons (o := _) rfl (fun K hK => ?_) ?_
                    ·
                      have Q6 : Blk z2 g6 (feC (rc u v)) 23 := ((P6.drew).chg kz (by simp)).chg ky (by simp)
                      have CG : Chg w z2 [] := (C3.drew.trans1 kz).trans1 ky
                      rw [if_pos (by rfl)]
                      refine wp_store_row 23 _ _ rfl g6 _ rfl rfl 23 _ Q6 feInfo rfl (feC_one _) ?_
                      refine hK.out _ _ (hHeld.trans1 (Chg.of (gb_setRow (gb_refl z2 _) _))) (fun hHeld => ?_)
                      clear hK K
                      try simp only [Act.put, List.setIfInBounds_toArray, List.set_cons_zero, List.set_cons_succ]
                      refine wpAnyH_done (by kernel_rfl) ?_ _
                      exact ⟨rfl, Q6.setRow _, hHeld, CG.setRowNew (by omega) _⟩
                    exact AllReadyH.nil
                  exact AllReadyH.nil
                exact AllReadyH.nil
              exact AllReadyH.nil
            rintro a' v5 ⟨rfl, Q6, K5, CG⟩
            replace P0 := P0.chg K5 (by simp <;> omega)
            replace P2 := P2.chg K5 (by simp <;> omega)
            replace P7 := P7.chg K5 (by simp <;> omega)
            replace P8 := P8.chg K5 (by simp <;> omega)
            clear P6 C3 K5
            have P6 := Q6
            have C3 := CG
            clear Q6 CG
            have rroot : R256 (S1 * (rc u v) % P) := r256_mod _
            go_wp2_with fail
            refine wp_region_held_drew (S := fun w' => Chg v5 w' [(w.heap.size + 1 + 1)]) (by kernel_rfl) ((Chg.refl v5 _).drew) (fun hHeld => ?_)
            refine take_load 0 (some 31) (feC (S1 * (rc u v) % P)) rfl (by kernel_rfl) (by kernel_rfl) (by kernel_rfl) (fun _ _ _ h => h) rfl rfl 23 _ rfl g6 rfl 23 _ (fun w h => P6.chg h (by simp <;> omega)) Try.underlying23 rfl (by first | exact feInfo | kernel_rfl) hHeld ?_
            try simp only [Act.put, List.setIfInBounds_toArray, List.set_cons_zero, List.set_cons_succ]
            refine take_load 2 (some 33) (feC (gotf u v)) rfl (by kernel_rfl) (by kernel_rfl) (by kernel_rfl) (fun _ _ _ h => h) rfl rfl 23 _ rfl g7 rfl 23 _ (fun w h => P7.chg h (by simp <;> omega)) Try.underlying23 rfl (by first | exact feInfo | kernel_rfl) hHeld ?_
            try simp only [Act.put, List.setIfInBounds_toArray, List.set_cons_zero, List.set_cons_succ]
            refine take_load 3 (some 34) (feC u) rfl (by kernel_rfl) (by kernel_rfl) (by kernel_rfl) (fun _ _ _ h => h) rfl rfl 23 _ rfl w.heap.size rfl 23 _ (fun w h => P0.chg h (by simp <;> omega)) Try.underlying23 rfl (by first | exact feInfo | kernel_rfl) hHeld ?_
            try simp only [Act.put, List.setIfInBounds_toArray, List.set_cons_zero, List.set_cons_succ]
            refine wpAnyH_ready (rs := [1]) (by kernel_rfl) (by simp) ?_
            refine AllReadyH.cons (o := _) rfl (fun K hK => ?_) ?_
            ·
              go_simp
              refine (Abs_fe (S1 * (rc u v) % P) rroot _).mono ?_
              rintro e va ⟨rfl, ka⟩
              go_wp2_with fail
              refine hK.out _ _ (hHeld.trans ka (by simp)) (fun hHeld => ?_)
              clear hK K
              try simp only [Act.put, List.setIfInBounds_toArray, List.set_cons_zero, List.set_cons_succ]
              refine wpAnyH_ready (rs := [4]) (by kernel_rfl) (by simp) ?_
              refine AllReadyH.cons (o := _) rfl (fun K hK => ?_) ?_
              ·
                go_simp
                refine (canonical_fe u ru _).mono ?_
                rintro e vb ⟨rfl, kb⟩
                go_wp2_with fail
                refine hK.out _ _ (hHeld.trans kb (by simp)) (fun hHeld => ?_)
                clear hK K
                try simp only [Act.put, List.setIfInBounds_toArray, List.set_cons_zero, List.set_cons_succ]
                refine take_val (v := (.bool true)) 5 (some 36) rfl (by kernel_rfl) (by kernel_rfl) (by kernel_rfl) (fun _ _ _ h => h) rfl rfl (fun w hSw => ?_) hHeld ?_
                · (go_simp; try with_reducible rfl)
                try simp only [Act.put, List.setIfInBounds_toArray, List.set_cons_zero, List.set_cons_succ]
                refine take_val (v := ?_) 6 (some 37) rfl (by kernel_rfl) (by kernel_rfl) (by kernel_rfl) (fun _ _ _ h => h) rfl rfl (fun w hSw => ?_) hHeld ?_
                rotate_left
                · (go_simp; try with_reducible rfl)
                try simp only [Act.put, List.setIfInBounds_toArray, List.set_cons_zero, List.set_cons_succ]
                refine take_no 7 (some 38) rfl (by kernel_rfl) (by kernel_rfl) (by kernel_rfl) (fun _ _ _ h => h) rfl rfl hHeld ?_
                try simp only [Act.put, List.setIfInBounds_toArray, List.set_cons_zero, List.set_cons_succ]
                refine take_no 8 (some 39) rfl (by kernel_rfl) (by kernel_rfl) (by kernel_rfl) (fun _ _ _ h => h) rfl rfl hHeld ?_
                try simp only [Act.put, List.setIfInBounds_toArray, List.set_cons_zero, List.set_cons_succ]
                refine take_no 9 (some 40) rfl (by kernel_rfl) (by kernel_rfl) (by kernel_rfl) (fun _ _ _ h => h) rfl rfl hHeld ?_
                try simp only [Act.put, List.setIfInBounds_toArray, List.set_cons_zero, List.set_cons_succ]
                refine take_val (v := ?_) 10 (some 41) rfl (by kernel_rfl) (by kernel_rfl) (by kernel_rfl) (fun _ _ _ h => h) rfl rfl (fun w hSw => ?_) hHeld ?_
                rotate_left
                · (go_simp; try with_reducible rfl)
                try simp only [Act.put, List.setIfInBounds_toArray, List.set_cons_zero, List.set_cons_succ]
                refine wpAnyH_ready (rs := [11]) (by kernel_rfl) (by simp) ?_
                refine AllReadyH.cons (o := _) rfl (fun K hK => ?_) ?_
                ·
                  have Q2 : Blk vb (w.heap.size + 1 + 1) z32 23 := ((P2.drew).chg ka (by simp)).chg kb (by simp)
                  have CF : Chg w vb [] := (C3.drew.trans1 ka).trans1 kb
                  rw [if_pos (by rfl)]
                  refine wp_store_row 23 _ _ rfl (w.heap.size + 1 + 1) _ rfl rfl 23 _ Q2 feInfo rfl (feC_one _) ?_
                  refine hK.out _ _ (hHeld.trans1 (Chg.of (gb_setRow (gb_refl vb _) _))) (fun hHeld => ?_)
                  clear hK K
                  try simp only [Act.put, List.setIfInBounds_toArray, List.set_cons_zero, List.set_cons_succ]
                  refine take_val (v := ?_) 12 (some 5) rfl (by kernel_rfl) (by kernel_rfl) (by kernel_rfl) (fun _ _ _ h => h) rfl rfl (fun w hSw => ?_) hHeld ?_
                  rotate_left
                  · (go_simp; try with_reducible rfl)
                  try simp only [Act.put, List.setIfInBounds_toArray, List.set_cons_zero, List.set_cons_succ]
                  refine wpAnyH_done (by kernel_rfl) ?_ _
                  go_wp2
                  refine bodyPost_ret (results_cell_tmp Try.results21 _ _ (w.heap.size + 1 + 1) 23 (feC (ab (S1 * (rc u v) % P))) _ (.bool true) rfl rfl (Blk.setRow Q2 _) Try.underlying23 rfl feInfo) rfl ⟨?_, CF.setRowNew (by omega) _⟩
                  rw [HR.out, HO.out]
                exact AllReadyH.nil
              exact AllReadyH.nil
            exact AllReadyH.nil
          exact AllReadyH.nil
        exact AllReadyH.nil
  ·
    cases hB3 : eqf (gotf u v) (u % P)
    · have HO : Hid (okf u v = true) := by show _ = _; simp [okf, hB1, hB3]
      have HR : Hid (rootf u v = S1 * (rc u v) % P) := by show _ = _; simp [rootf, fixf, hB1]
      refine wp_region_held_drew (S := fun w' => Chg v3 w' []) (by kernel_rfl) ((Chg.refl v3 _).drew) (fun hHeld => ?_)
      refine take_load 0 (some 18) (feC (gotf u v)) rfl (by kernel_rfl) (by kernel_rfl) (by kernel_rfl) (fun _ _ _ h => h) rfl rfl 23 _ rfl g7 rfl 23 _ (fun w h => P7.chg h (by simp)) Try.underlying23 rfl (by first | exact feInfo | kernel_rfl) hHeld ?_
      try simp only [Act.put, List.setIfInBounds_toArray, List.set_cons_zero, List.set_cons_succ]
      refine take_load 1 (some 19) (feC (-u % P)) rfl (by kernel_rfl) (by kernel_rfl) (by kernel_rfl) (fun _ _ _ h => h) rfl rfl 23 _ rfl g8 rfl 23 _ (fun w h => P8.chg h (by simp)) Try.underlying23 rfl (by first | exact feInfo | kernel_rfl) hHeld ?_
      try simp only [Act.put, List.setIfInBounds_toArray, List.set_cons_zero, List.set_cons_succ]
      refine take_val (v := (.bool true)) 2 (some 20) rfl (by kernel_rfl) (by kernel_rfl) (by kernel_rfl) (fun _ _ _ h => h) rfl rfl (fun w hSw => ?_) hHeld ?_
      · (go_simp; try with_reducible rfl)
      try simp only [Act.put, List.setIfInBounds_toArray, List.set_cons_zero, List.set_cons_succ]
      refine take_val (v := ?_) 3 (some 21) rfl (by kernel_rfl) (by kernel_rfl) (by kernel_rfl) (fun _ _ _ h => h) rfl rfl (fun w hSw => ?_) hHeld ?_
      rotate_left
      · (go_simp; try with_reducible rfl)
      try simp only [Act.put, List.setIfInBounds_toArray, List.set_cons_zero, List.set_cons_succ]
      refine take_no 4 (some 22) rfl (by kernel_rfl) (by kernel_rfl) (by kernel_rfl) (fun _ _ _ h => h) rfl rfl hHeld ?_
      try simp only [Act.put, List.setIfInBounds_toArray, List.set_cons_zero, List.set_cons_succ]
      refine take_no 5 (some 23) rfl (by kernel_rfl) (by kernel_rfl) (by kernel_rfl) (fun _ _ _ h => h) rfl rfl hHeld ?_
      try simp only [Act.put, List.setIfInBounds_toArray, List.set_cons_zero, List.set_cons_succ]
      refine take_no 6 (some 24) rfl (by kernel_rfl) (by kernel_rfl) (by kernel_rfl) (fun _ _ _ h => h) rfl rfl hHeld ?_
      try simp only [Act.put, List.setIfInBounds_toArray, List.set_cons_zero, List.set_cons_succ]
      refine take_no 7 (some 25) rfl (by kernel_rfl) (by kernel_rfl) (by kernel_rfl) (fun _ _ _ h => h) rfl rfl hHeld ?_
      try simp only [Act.put, List.setIfInBounds_toArray, List.set_cons_zero, List.set_cons_succ]
      refine take_no 8 (some 26) rfl (by kernel_rfl) (by kernel_rfl) (by kernel_rfl) (fun _ _ _ h => h) rfl rfl hHeld ?_
      try simp only [Act.put, List.setIfInBounds_toArray, List.set_cons_zero, List.set_cons_succ]
      refine take_val (v := ?_) 9 (some 27) rfl (by kernel_rfl) (by kernel_rfl) (by kernel_rfl) (fun _ _ _ h => h) rfl rfl (fun w hSw => ?_) hHeld ?_
      rotate_left
      · (go_simp; try with_reducible rfl)
      try simp only [Act.put, List.setIfInBounds_toArray, List.set_cons_zero, List.set_cons_succ]
      refine wpAnyH_done (by kernel_rfl) ?_ _
      obtain ⟨v4, hv4⟩ : ∃ x, x = v3.drew := ⟨_, rfl⟩
      rw [← hv4] at hHeld ⊢
      replace P0 := P0.chg hHeld (by simp)
      replace P2 := P2.chg hHeld (by simp)
      replace P6 := P6.chg hHeld (by simp)
      replace P7 := P7.chg hHeld (by simp)
      replace P8 := P8.chg hHeld (by simp)
      replace C3 := C3.trans1 hHeld
      clear hv4 hHeld
      go_wp2_with fail
      refine region_cut (fun a' w' => a' = ⟨#[fe u, fe v, .pointer (some ⟨w.heap.size, 0, none⟩), .pointer (some ⟨(w.heap.size + 1), 0, none⟩), .pointer (some ⟨(w.heap.size + 1 + 1), 0, none⟩), .bool false, .pointer (some ⟨g6, 0, none⟩), .pointer (some ⟨g7, 0, none⟩), .pointer (some ⟨g8, 0, none⟩), .agg (feC u), .agg (feC v), fe (rc u v), .agg (feC v), .agg (feC (rc u v)), fe ((rc u v) * (rc u v) % P), fe (gotf u v), .agg (feC u), fe (-u % P), .agg (feC (gotf u v)), .agg (feC (-u % P)), .bool true, .bool true, undef, undef, undef, undef, undef, .bool true, fe S1, .agg (feC (rc u v)), fe (S1 * (rc u v) % P), undef, undef, undef, undef, undef, undef, undef, undef, undef, undef, undef], []⟩ ∧ Blk w' g6 (feC (S1 * (rc u v) % P)) 23 ∧ Chg v4 w' [g6] ∧ Chg w w' []) ?_ ?_
      ·
        refine wp_region_held_drew (S := fun w' => Chg v4 w' [g6]) (by kernel_rfl) ((Chg.refl v4 _).drew) (fun hHeld => ?_)
        refine wpAnyH_ready (rs := [0, 1]) (by kernel_rfl) (by simp) ?_
        refine AllReadyH.cons (o := _) rfl (fun K hK => ?_) ?_
        ·
          go_simp
          refine (SqrtM1_fe _).mono ?_
          rintro e z1 ⟨rfl, kz⟩
          go_wp2_with fail
          refine hK.out _ _ (hHeld.trans kz (by simp)) (fun hHeld => ?_)
          clear hK K
          try simp only [Act.put, List.setIfInBounds_toArray, List.set_cons_zero, List.set_cons_succ]
          refine wpAnyH_ready (rs := [1]) (by kernel_rfl) (by simp) ?_
          refine AllReadyH.cons (o := _) rfl (fun K hK => ?_) ?_
          ·
            rw [if_pos (by rfl)]
            refine wp_load_row 23 _ rfl g6 rfl 23 (feC (rc u v)) (0, 0) _ (by first | exact P6.drew | exact (P6.drew).chg kz (by simp)) Try.underlying23 rfl feInfo ?_
            refine hK.out _ _ (hHeld) (fun hHeld => ?_)
            clear hK K
            try simp only [Act.put, List.setIfInBounds_toArray, List.set_cons_zero, List.set_cons_succ]
            refine wpAnyH_ready (rs := [2]) (by kernel_rfl) (by simp) ?_
            refine AllReadyH.cons (o := _) rfl (fun K hK => ?_) ?_
            ·
              go_simp
              refine (Mul_fe S1 (rc u v) rs1 rr _).mono ?_
              rintro e z2 ⟨rfl, ky⟩
              go_wp2_with fail
              refine hK.out _ _ (hHeld.trans ky (by simp)) (fun hHeld => ?_)
              clear hK K
              try simp only [Act.put, List.setIfInBounds_toArray, List.set_cons_zero, List.set_cons_succ]
              refine wpAnyH_ready (rs := [3]) (by kernel_rfl) (by simp) ?_
              refine AllReadyH.cons (o := _) rfl (fun K hK => ?_) ?_
              ·
                have Q6 : Blk z2 g6 (feC (rc u v)) 23 := ((P6.drew).chg kz (by simp)).chg ky (by simp)
                have CG : Chg w z2 [] := (C3.drew.trans1 kz).trans1 ky
                rw [if_pos (by rfl)]
                refine wp_store_row 23 _ _ rfl g6 _ rfl rfl 23 _ Q6 feInfo rfl (feC_one _) ?_
                refine hK.out _ _ (hHeld.trans1 (Chg.of (gb_setRow (gb_refl z2 _) _))) (fun hHeld => ?_)
                clear hK K
                try simp only [Act.put, List.setIfInBounds_toArray, List.set_cons_zero, List.set_cons_succ]
                refine wpAnyH_done (by kernel_rfl) ?_ _
                exact ⟨rfl, Q6.setRow _, hHeld, CG.setRowNew (by omega) _⟩
              exact AllReadyH.nil
            exact AllReadyH.nil
          exact AllReadyH.nil
        refine AllReadyH.cons (o := _) rfl (fun K hK => ?_) ?_
        ·
          rw [if_pos (by rfl)]
          refine wp_load_row 23 _ rfl g6 rfl 23 (feC (rc u v)) (0, 0) _ (by first | exact P6.drew | exact (P6.drew).chg kz (by simp)) Try.underlying23 rfl feInfo ?_
          refine hK.out _ _ (hHeld) (fun hHeld => ?_)
          clear hK K
          try simp only [Act.put, List.setIfInBounds_toArray, List.set_cons_zero, List.set_cons_succ]
          refine wpAnyH_ready (rs := [0]) (by kernel_rfl) (by simp) ?_
          refine AllReadyH.cons (o := _) rfl (fun K hK => ?_) ?_
          ·
            go_simp
            refine (SqrtM1_fe _).mono ?_
            rintro e z1 ⟨rfl, kz⟩
            go_wp2_with fail
            refine hK.out _ _ (hHeld.trans kz (by simp)) (fun hHeld => ?_)
            clear hK K
            try simp only [Act.put, List.setIfInBounds_toArray, List.set_cons_zero, List.set_cons_succ]
            refine wpAnyH_ready (rs := [2]) (by kernel_rfl) (by simp) ?_
            refine AllReadyH.cons (o := _) rfl (fun K hK => ?_) ?_
            ·
              go_simp
              refine (Mul_fe S1 (rc u v) rs1 rr _).mono ?_
              rintro e z2 ⟨rfl, ky⟩
              go_wp2_with fail
              refine hK.out _ _ (hHeld.trans ky (by simp)) (fun hHeld => ?_)
              clear hK K
              try simp only [Act.put, List.setIfInBounds_toArray, List.set_cons_zero, List.set_cons_succ]
              refine wpAnyH_ready (rs := [3]) (by kernel_rfl) (by simp) ?_
              refine AllReadyH.cons (o := _) rfl (fun K hK => ?_) ?_
              ·
                have Q6 : Blk z2 g6 (feC (rc u v)) 23 := ((P6.drew).chg kz (by simp)).chg ky (by simp)
                have CG : Chg w z2 [] := (C3.drew.trans1 kz).trans1 ky
                rw [if_pos (by rfl)]
                refine wp_store_row 23 _ _ rfl g6 _ rfl rfl 23 _ Q6 feInfo rfl (feC_one _) ?_
                refine hK.out _ _ (hHeld.trans1 (Chg.of (gb_setRow (gb_refl z2 _) _))) (fun hHeld => ?_)
                clear hK K
                try simp only [Act.put, List.setIfInBounds_toArray, List.set_cons_zero, List.set_cons_succ]
                refine wpAnyH_done (by kernel_rfl) ?_ _
                exact ⟨rfl, Q6.setRow _, hHeld, CG.setRowNew (by omega) _⟩
              exact AllReadyH.nil
            exact AllReadyH.nil
          exact AllReadyH.nil
        exact AllReadyH.nil
      rintro a' v5 ⟨rfl, Q6, K5, CG⟩
      replace P0 := P0.chg K5 (by simp <;> omega)
      replace P2 := P2.chg K5 (by simp <;> omega)
      replace P7 := P7.chg K5 (by simp <;> omega)
      replace P8 := P8.chg K5 (by simp <;> omega)
      clear P6 C3 K5
      have P6 := Q6
      have C3 := CG
      clear Q6 CG
      have rroot : R256 (S1 * (rc u v) % P) := r256_mod _
      go_wp2_with fail
      refine wp_region_held_drew (S := fun w' => Chg v5 w' [(w.heap.size + 1 + 1)]) (by kernel_rfl) ((Chg.refl v5 _).drew) (fun hHeld => ?_)
      refine take_load 0 (some 31) (feC (S1 * (rc u v) % P)) rfl (by kernel_rfl) (by kernel_rfl) (by kernel_rfl) (fun _ _ _ h => h) rfl rfl 23 _ rfl g6 rfl 23 _ (fun w h => P6.chg h (by simp <;> omega)) Try.underlying23 rfl (by first | exact feInfo | kernel_rfl) hHeld ?_
      try simp only [Act.put, List.setIfInBounds_toArray, List.set_cons_zero, List.set_cons_succ]
      refine take_load 2 (some 33) (feC (gotf u v)) rfl (by kernel_rfl) (by kernel_rfl) (by kernel_rfl) (fun _ _ _ h => h) rfl rfl 23 _ rfl g7 rfl 23 _ (fun w h => P7.chg h (by simp <;> omega)) Try.underlying23 rfl (by first | exact feInfo | kernel_rfl) hHeld ?_
      try simp only [Act.put, List.setIfInBounds_toArray, List.set_cons_zero, List.set_cons_succ]
      refine take_load 3 (some 34) (feC u) rfl (by kernel_rfl) (by kernel_rfl) (by kernel_rfl) (fun _ _ _ h => h) rfl rfl 23 _ rfl w.heap.size rfl 23 _ (fun w h => P0.chg h (by simp <;> omega)) Try.underlying23 rfl (by first | exact feInfo | kernel_rfl) hHeld ?_
      try simp only [Act.put, List.setIfInBounds_toArray, List.set_cons_zero, List.set_cons_succ]
      refine wpAnyH_ready (rs := [1]) (by kernel_rfl) (by simp) ?_
      refine AllReadyH.cons (o := _) rfl (fun K hK => ?_) ?_
      ·
        go_simp
        refine (Abs_fe (S1 * (rc u v) % P) rroot _).mono ?_
        rintro e va ⟨rfl, ka⟩
        go_wp2_with fail
        refine hK.out _ _ (hHeld.trans ka (by simp)) (fun hHeld => ?_)
        clear hK K
        try simp only [Act.put, List.setIfInBounds_toArray, List.set_cons_zero, List.set_cons_succ]
        refine wpAnyH_ready (rs := [4]) (by kernel_rfl) (by simp) ?_
        refine AllReadyH.cons (o := _) rfl (fun K hK => ?_) ?_
        ·
          go_simp
          refine (canonical_fe u ru _).mono ?_
          rintro e vb ⟨rfl, kb⟩
          go_wp2_with fail
          refine hK.out _ _ (hHeld.trans kb (by simp)) (fun hHeld => ?_)
          clear hK K
          try simp only [Act.put, List.setIfInBounds_toArray, List.set_cons_zero, List.set_cons_succ]
          refine take_val (v := (.bool false)) 5 (some 36) rfl (by kernel_rfl) (by kernel_rfl) (by kernel_rfl) (fun _ _ _ h => h) rfl rfl (fun w hSw => ?_) hHeld ?_
          · (go_simp; try with_reducible rfl)
          try simp only [Act.put, List.setIfInBounds_toArray, List.set_cons_zero, List.set_cons_succ]
          refine take_val (v := ?_) 6 (some 37) rfl (by kernel_rfl) (by kernel_rfl) (by kernel_rfl) (fun _ _ _ h => h) rfl rfl (fun w hSw => ?_) hHeld ?_
          rotate_left
          · (go_simp; try with_reducible rfl)
          try simp only [Act.put, List.setIfInBounds_toArray, List.set_cons_zero, List.set_cons_succ]
          refine take_load 7 (some 38) (feC (gotf u v)) rfl (by kernel_rfl) (by kernel_rfl) (by kernel_rfl) (fun _ _ _ h => h) rfl rfl 23 _ rfl g7 rfl 23 _ (fun w h => P7.chg h (by simp <;> omega)) Try.underlying23 rfl (by first | exact feInfo | kernel_rfl) hHeld ?_
          try simp only [Act.put, List.setIfInBounds_toArray, List.set_cons_zero, List.set_cons_succ]
          refine take_load 8 (some 39) (feC (-u % P)) rfl (by kernel_rfl) (by kernel_rfl) (by kernel_rfl) (fun _ _ _ h => h) rfl rfl 23 _ rfl g8 rfl 23 _ (fun w h => P8.chg h (by simp <;> omega)) Try.underlying23 rfl (by first | exact feInfo | kernel_rfl) hHeld ?_
          try simp only [Act.put, List.setIfInBounds_toArray, List.set_cons_zero, List.set_cons_succ]
          refine take_val (v := (.bool true)) 9 (some 40) rfl (by kernel_rfl) (by kernel_rfl) (by kernel_rfl) (fun _ _ _ h => h) rfl rfl (fun w hSw => ?_) hHeld ?_
          · (go_simp; try with_reducible rfl)
          try simp only [Act.put, List.setIfInBounds_toArray, List.set_cons_zero, List.set_cons_succ]
          refine take_val (v := ?_) 10 (some 41) rfl (by kernel_rfl) (by kernel_rfl) (by kernel_rfl) (fun _ _ _ h => h) rfl rfl (fun w hSw => ?_) hHeld ?_
          rotate_left
          · (go_simp; try with_reducible rfl)
          try simp only [Act.put, List.setIfInBounds_toArray, List.set_cons_zero, List.set_cons_succ]
          refine wpAnyH_ready (rs := [11]) (by kernel_rfl) (by simp) ?_
          refine AllReadyH.cons (o := _) rfl (fun K hK => ?_) ?_
          ·
            have Q2 : Blk vb (w.heap.size + 1 + 1) z32 23 := ((P2.drew).chg ka (by simp)).chg kb (by simp)
            have CF : Chg w vb [] := (C3.drew.trans1 ka).trans1 kb
            rw [if_pos (by rfl)]
            refine wp_store_row 23 _ _ rfl (w.heap.size + 1 + 1) _ rfl rfl 23 _ Q2 feInfo rfl (feC_one _) ?_
            refine hK.out _ _ (hHeld.trans1 (Chg.of (gb_setRow (gb_refl vb _) _))) (fun hHeld => ?_)
            clear hK K
            try simp only [Act.put, List.setIfInBounds_toArray, List.set_cons_zero, List.set_cons_succ]
            refine take_val (v := ?_) 12 (some 5) rfl (by kernel_rfl) (by kernel_rfl) (by kernel_rfl) (fun _ _ _ h => h) rfl rfl (fun w hSw => ?_) hHeld ?_
            rotate_left
            · (go_simp; try with_reducible rfl)
            try simp only [Act.put, List.setIfInBounds_toArray, List.set_cons_zero, List.set_cons_succ]
            refine wpAnyH_done (by kernel_rfl) ?_ _
            go_wp2
            refine bodyPost_ret (results_cell_tmp Try.results21 _ _ (w.heap.size + 1 + 1) 23 (feC (ab (S1 * (rc u v) % P))) _ (.bool true) rfl rfl (Blk.setRow Q2 _) Try.underlying23 rfl feInfo) rfl ⟨?_, CF.setRowNew (by omega) _⟩
            rw [HR.out, HO.out]
          exact AllReadyH.nil
        exact AllReadyH.nil
      exact AllReadyH.nil

    · have HO : Hid (okf u v = true) := by show _ = _; simp [okf, hB1, hB3]
      have HR : Hid (rootf u v = S1 * (rc u v) % P) := by show _ = _; simp [rootf, fixf, hB1]
      refine wp_region_held_drew (S := fun w' => Chg v3 w' []) (by kernel_rfl) ((Chg.refl v3 _).drew) (fun hHeld => ?_)
      refine take_load 0 (some 18) (feC (gotf u v)) rfl (by kernel_rfl) (by kernel_rfl) (by kernel_rfl) (fun _ _ _ h => h) rfl rfl 23 _ rfl g7 rfl 23 _ (fun w h => P7.chg h (by simp)) Try.underlying23 rfl (by first | exact feInfo | kernel_rfl) hHeld ?_
      try simp only [Act.put, List.setIfInBounds_toArray, List.set_cons_zero, List.set_cons_succ]
      refine take_load 1 (some 19) (feC (-u % P)) rfl (by kernel_rfl) (by kernel_rfl) (by kernel_rfl) (fun _ _ _ h => h) rfl rfl 23 _ rfl g8 rfl 23 _ (fun w h => P8.chg h (by simp)) Try.underlying23 rfl (by first | exact feInfo | kernel_rfl) hHeld ?_
      try simp only [Act.put, List.setIfInBounds_toArray, List.set_cons_zero, List.set_cons_succ]
      refine take_val (v := (.bool true)) 2 (some 20) rfl (by kernel_rfl) (by kernel_rfl) (by kernel_rfl) (fun _ _ _ h => h) rfl rfl (fun w hSw => ?_) hHeld ?_
      · (go_simp; try with_reducible rfl)
      try simp only [Act.put, List.setIfInBounds_toArray, List.set_cons_zero, List.set_cons_succ]
      refine take_val (v := ?_) 3 (some 21) rfl (by kernel_rfl) (by kernel_rfl) (by kernel_rfl) (fun _ _ _ h => h) rfl rfl (fun w hSw => ?_) hHeld ?_
      rotate_left
      · (go_simp; try with_reducible rfl)
      try simp only [Act.put, List.setIfInBounds_toArray, List.set_cons_zero, List.set_cons_succ]
      refine take_no 4 (some 22) rfl (by kernel_rfl) (by kernel_rfl) (by kernel_rfl) (fun _ _ _ h => h) rfl rfl hHeld ?_
      try simp only [Act.put, List.setIfInBounds_toArray, List.set_cons_zero, List.set_cons_succ]
      refine take_no 5 (some 23) rfl (by kernel_rfl) (by kernel_rfl) (by kernel_rfl) (fun _ _ _ h => h) rfl rfl hHeld ?_
      try simp only [Act.put, List.setIfInBounds_toArray, List.set_cons_zero, List.set_cons_succ]
      refine take_no 6 (some 24) rfl (by kernel_rfl) (by kernel_rfl) (by kernel_rfl) (fun _ _ _ h => h) rfl rfl hHeld ?_
      try simp only [Act.put, List.setIfInBounds_toArray, List.set_cons_zero, List.set_cons_succ]
      refine take_no 7 (some 25) rfl (by kernel_rfl) (by kernel_rfl) (by kernel_rfl) (fun _ _ _ h => h) rfl rfl hHeld ?_
      try simp only [Act.put, List.setIfInBounds_toArray, List.set_cons_zero, List.set_cons_succ]
      refine take_no 8 (some 26) rfl (by kernel_rfl) (by kernel_rfl) (by kernel_rfl) (fun _ _ _ h => h) rfl rfl hHeld ?_
      try simp only [Act.put, List.setIfInBounds_toArray, List.set_cons_zero, List.set_cons_succ]
      refine take_val (v := ?_) 9 (some 27) rfl (by kernel_rfl) (by kernel_rfl) (by kernel_rfl) (fun _ _ _ h => h) rfl rfl (fun w hSw => ?_) hHeld ?_
      rotate_left
      · (go_simp; try with_reducible rfl)
      try simp only [Act.put, List.setIfInBounds_toArray, List.set_cons_zero, List.set_cons_succ]
      refine wpAnyH_done (by kernel_rfl) ?_ _
      obtain ⟨v4, hv4⟩ : ∃ x, x = v3.drew := ⟨_, rfl⟩
      rw [← hv4] at hHeld ⊢
      replace P0 := P0.chg hHeld (by simp)
      replace P2 := P2.chg hHeld (by simp)
      replace P6 := P6.chg hHeld (by simp)
      replace P7 := P7.chg hHeld (by simp)
      replace P8 := P8.chg hHeld (by simp)
      replace C3 := C3.trans1 hHeld
      clear hv4 hHeld
      go_wp2_with fail
      refine region_cut (fun a' w' => a' = ⟨#[fe u, fe v, .pointer (some ⟨w.heap.size, 0, none⟩), .pointer (some ⟨(w.heap.size + 1), 0, none⟩), .pointer (some ⟨(w.heap.size + 1 + 1), 0, none⟩), .bool false, .pointer (some ⟨g6, 0, none⟩), .pointer (some ⟨g7, 0, none⟩), .pointer (some ⟨g8, 0, none⟩), .agg (feC u), .agg (feC v), fe (rc u v), .agg (feC v), .agg (feC (rc u v)), fe ((rc u v) * (rc u v) % P), fe (gotf u v), .agg (feC u), fe (-u % P), .agg (feC (gotf u v)), .agg (feC (-u % P)), .bool true, .bool true, undef, undef, undef, undef, undef, .bool true, fe S1, .agg (feC (rc u v)), fe (S1 * (rc u v) % P), undef, undef, undef, undef, undef, undef, undef, undef, undef, undef, undef], []⟩ ∧ Blk w' g6 (feC (S1 * (rc u v) % P)) 23 ∧ Chg v4 w' [g6] ∧ Chg w w' []) ?_ ?_
      ·
        refine wp_region_held_drew (S := fun w' => Chg v4 w' [g6]) (by kernel_rfl) ((Chg.refl v4 _).drew) (fun hHeld => ?_)
        refine wpAnyH_ready (rs := [0, 1]) (by kernel_rfl) (by simp) ?_
        refine AllReadyH.cons (o := _) rfl (fun K hK => ?_) ?_
        ·
          go_simp
          refine (SqrtM1_fe _).mono ?_
          rintro e z1 ⟨rfl, kz⟩
          go_wp2_with fail
          refine hK.out _ _ (hHeld.trans kz (by simp)) (fun hHeld => ?_)
          clear hK K
          try simp only [Act.put, List.setIfInBounds_toArray, List.set_cons_zero, List.set_cons_succ]
          refine wpAnyH_ready (rs := [1]) (by kernel_rfl) (by simp) ?_
          refine AllReadyH.cons (o := _) rfl (fun K hK => ?_) ?_
          ·
            rw [if_pos (by rfl)]
            refine wp_load_row 23 _ rfl g6 rfl 23 (feC (rc u v)) (0, 0) _ (by first | exact P6.drew | exact (P6.drew).chg kz (by simp)) Try.underlying23 rfl feInfo ?_
            refine hK.out _ _ (hHeld) (fun hHeld => ?_)
            clear hK K
            try simp only [Act.put, List.setIfInBounds_toArray, List.set_cons_zero, List.set_cons_succ]
            refine wpAnyH_ready (rs := [2]) (by kernel_rfl) (by simp) ?_
            refine AllReadyH.cons (o := _) rfl (fun K hK => ?_) ?_
            ·
              go_simp
              refine (Mul_fe S1 (rc u v) rs1 rr _).mono ?_
              rintro e z2 ⟨rfl, ky⟩
              go_wp2_with fail
              refine hK.out _ _ (hHeld.trans ky (by simp)) (fun hHeld => ?_)
              clear hK K
              try simp only [Act.put, List.setIfInBounds_toArray, List.set_cons_zero, List.set_cons_succ]
              refine wpAnyH_ready (rs := [3]) (by kernel_rfl) (by simp) ?_
              refine AllReadyH.cons (o := _) rfl (fun K hK => ?_) ?_
              ·
                have Q6 : Blk z2 g6 (feC (rc u v)) 23 := ((P6.drew).chg kz (by simp)).chg ky (by simp)
                have CG : Chg w z2 [] := (C3.drew.trans1 kz).trans1 ky
                rw [if_pos (by rfl)]
                refine wp_store_row 23 _ _ rfl g6 _ rfl rfl 23 _ Q6 feInfo rfl (feC_one _) ?_
                refine hK.out _ _ (hHeld.trans1 (Chg.of (gb_setRow (gb_refl z2 _) _))) (fun hHeld => ?_)
                clear hK K
                try simp only [Act.put, List.setIfInBounds_toArray, List.set_cons_zero, List.set_cons_succ]
                refine wpAnyH_done (by kernel_rfl) ?_ _
                exact ⟨rfl, Q6.setRow _, hHeld, CG.setRowNew (by omega) _⟩
              exact AllReadyH.nil
            exact AllReadyH.nil
          exact AllReadyH.nil
        refine AllReadyH.cons (o := _) rfl (fun K hK => ?_) ?_
        ·
          rw [if_pos (by rfl)]
          refine wp_load_row 23 _ rfl g6 rfl 23 (feC (rc u v)) (0, 0) _ (by first | exact P6.drew | exact (P6.drew).chg kz (by simp)) Try.underlying23 rfl feInfo ?_
          refine hK.out _ _ (hHeld) (fun hHeld => ?_)
          clear hK K
          try simp only [Act.put, List.setIfInBounds_toArray, List.set_cons_zero, List.set_cons_succ]
          refine wpAnyH_ready (rs := [0]) (by kernel_rfl) (by simp) ?_
          refine AllReadyH.cons (o := _) rfl (fun K hK => ?_) ?_
          ·
            go_simp
            refine (SqrtM1_fe _).mono ?_
            rintro e z1 ⟨rfl, kz⟩
            go_wp2_with fail
            refine hK.out _ _ (hHeld.trans kz (by simp)) (fun hHeld => ?_)
            clear hK K
            try simp only [Act.put, List.setIfInBounds_toArray, List.set_cons_zero, List.set_cons_succ]
            refine wpAnyH_ready (rs := [2]) (by kernel_rfl) (by simp) ?_
            refine AllReadyH.cons (o := _) rfl (fun K hK => ?_) ?_
            ·
              go_simp
              refine (Mul_fe S1 (rc u v) rs1 rr _).mono ?_
              rintro e z2 ⟨rfl, ky⟩
              go_wp2_with fail
              refine hK.out _ _ (hHeld.trans ky (by simp)) (fun hHeld => ?_)
              clear hK K
              try simp only [Act.put, List.setIfInBounds_toArray, List.set_cons_zero, List.set_cons_succ]
              refine wpAnyH_ready (rs := [3]) (by kernel_rfl) (by simp) ?_
              refine AllReadyH.cons (o := _) rfl (fun K hK => ?_) ?_
              ·
                have Q6 : Blk z2 g6 (feC (rc u v)) 23 := ((P6.drew).chg kz (by simp)).chg ky (by simp)
                have CG : Chg w z2 [] := (C3.drew.trans1 kz).trans1 ky
                rw [if_pos (by rfl)]
                refine wp_store_row 23 _ _ rfl g6 _ rfl rfl 23 _ Q6 feInfo rfl (feC_one _) ?_
                refine hK.out _ _ (hHeld.trans1 (Chg.of (gb_setRow (gb_refl z2 _) _))) (fun hHeld => ?_)
                clear hK K
                try simp only [Act.put, List.setIfInBounds_toArray, List.set_cons_zero, List.set_cons_succ]
                refine wpAnyH_done (by kernel_rfl) ?_ _
                exact ⟨rfl, Q6.setRow _, hHeld, CG.setRowNew (by omega) _⟩
              exact AllReadyH.nil
            exact AllReadyH.nil
          exact AllReadyH.nil
        exact AllReadyH.nil
      rintro a' v5 ⟨rfl, Q6, K5, CG⟩
      replace P0 := P0.chg K5 (by simp <;> omega)
      replace P2 := P2.chg K5 (by simp <;> omega)
      replace P7 := P7.chg K5 (by simp <;> omega)
      replace P8 := P8.chg K5 (by simp <;> omega)
      clear P6 C3 K5
      have P6 := Q6
      have C3 := CG
      clear Q6 CG
      have rroot : R256 (S1 * (rc u v) % P) := r256_mod _
      go_wp2_with fail
      refine wp_region_held_drew (S := fun w' => Chg v5 w' [(w.heap.size + 1 + 1)]) (by kernel_rfl) ((Chg.refl v5 _).drew) (fun hHeld => ?_)
      refine take_load 0 (some 31) (feC (S1 * (rc u v) % P)) rfl (by kernel_rfl) (by kernel_rfl) (by kernel_rfl) (fun _ _ _ h => h) rfl rfl 23 _ rfl g6 rfl 23 _ (fun w h => P6.chg h (by simp <;> omega)) Try.underlying23 rfl (by first | exact feInfo | kernel_rfl) hHeld ?_
      try simp only [Act.put, List.setIfInBounds_toArray, List.set_cons_zero, List.set_cons_succ]
      refine take_load 2 (some 33) (feC (gotf u v)) rfl (by kernel_rfl) (by kernel_rfl) (by kernel_rfl) (fun _ _ _ h => h) rfl rfl 23 _ rfl g7 rfl 23 _ (fun w h => P7.chg h (by simp <;> omega)) Try.underlying23 rfl (by first | exact feInfo | kernel_rfl) hHeld ?_
      try simp only [Act.put, List.setIfInBounds_toArray, List.set_cons_zero, List.set_cons_succ]
      refine take_load 3 (some 34) (feC u) rfl (by kernel_rfl) (by kernel_rfl) (by kernel_rfl) (fun _ _ _ h => h) rfl rfl 23 _ rfl w.heap.size rfl 23 _ (fun w h => P0.chg h (by simp <;> omega)) Try.underlying23 rfl (by first | exact feInfo | kernel_rfl) hHeld ?_
      try simp only [Act.put, List.setIfInBounds_toArray, List.set_cons_zero, List.set_cons_succ]
      refine wpAnyH_ready (rs := [1]) (by kernel_rfl) (by simp) ?_
      refine AllReadyH.cons (o := _) rfl (fun K hK => ?_) ?_
      ·
        go_simp
        refine (Abs_fe (S1 * (rc u v) % P) rroot _).mono ?_
        rintro e va ⟨rfl, ka⟩
        go_wp2_with fail
        refine hK.out _ _ (hHeld.trans ka (by simp)) (fun hHeld => ?_)
        clear hK K
        try simp only [Act.put, List.setIfInBounds_toArray, List.set_cons_zero, List.set_cons_succ]
        refine wpAnyH_ready (rs := [4]) (by kernel_rfl) (by simp) ?_
        refine AllReadyH.cons (o := _) rfl (fun K hK => ?_) ?_
        ·
          go_simp
          refine (canonical_fe u ru _).mono ?_
          rintro e vb ⟨rfl, kb⟩
          go_wp2_with fail
          refine hK.out _ _ (hHeld.trans kb (by simp)) (fun hHeld => ?_)
          clear hK K
          try simp only [Act.put, List.setIfInBounds_toArray, List.set_cons_zero, List.set_cons_succ]
          refine take_val (v := (.bool true)) 5 (some 36) rfl (by kernel_rfl) (by kernel_rfl) (by kernel_rfl) (fun _ _ _ h => h) rfl rfl (fun w hSw => ?_) hHeld ?_
          · (go_simp; try with_reducible rfl)
          try simp only [Act.put, List.setIfInBounds_toArray, List.set_cons_zero, List.set_cons_succ]
          refine take_val (v := ?_) 6 (some 37) rfl (by kernel_rfl) (by kernel_rfl) (by kernel_rfl) (fun _ _ _ h => h) rfl rfl (fun w hSw => ?_) hHeld ?_
          rotate_left
          · (go_simp; try with_reducible rfl)
          try simp only [Act.put, List.setIfInBounds_toArray, List.set_cons_zero, List.set_cons_succ]
          refine take_no 7 (some 38) rfl (by kernel_rfl) (by kernel_rfl) (by kernel_rfl) (fun _ _ _ h => h) rfl rfl hHeld ?_
          try simp only [Act.put, List.setIfInBounds_toArray, List.set_cons_zero, List.set_cons_succ]
          refine take_no 8 (some 39) rfl (by kernel_rfl) (by kernel_rfl) (by kernel_rfl) (fun _ _ _ h => h) rfl rfl hHeld ?_
          try simp only [Act.put, List.setIfInBounds_toArray, List.set_cons_zero, List.set_cons_succ]
          refine take_no 9 (some 40) rfl (by kernel_rfl) (by kernel_rfl) (by kernel_rfl) (fun _ _ _ h => h) rfl rfl hHeld ?_
          try simp only [Act.put, List.setIfInBounds_toArray, List.set_cons_zero, List.set_cons_succ]
          refine take_val (v := ?_) 10 (some 41) rfl (by kernel_rfl) (by kernel_rfl) (by kernel_rfl) (fun _ _ _ h => h) rfl rfl (fun w hSw => ?_) hHeld ?_
          rotate_left
          · (go_simp; try with_reducible rfl)
          try simp only [Act.put, List.setIfInBounds_toArray, List.set_cons_zero, List.set_cons_succ]
          refine wpAnyH_ready (rs := [11]) (by kernel_rfl) (by simp) ?_
          refine AllReadyH.cons (o := _) rfl (fun K hK => ?_) ?_
          ·
            have Q2 : Blk vb (w.heap.size + 1 + 1) z32 23 := ((P2.drew).chg ka (by simp)).chg kb (by simp)
            have CF : Chg w vb [] := (C3.drew.trans1 ka).trans1 kb
            rw [if_pos (by rfl)]
            refine wp_store_row 23 _ _ rfl (w.heap.size + 1 + 1) _ rfl rfl 23 _ Q2 feInfo rfl (feC_one _) ?_
            refine hK.out _ _ (hHeld.trans1 (Chg.of (gb_setRow (gb_refl vb _) _))) (fun hHeld => ?_)
            clear hK K
            try simp only [Act.put, List.setIfInBounds_toArray, List.set_cons_zero, List.set_cons_succ]
            refine take_val (v := ?_) 12 (some 5) rfl (by kernel_rfl) (by kernel_rfl) (by kernel_rfl) (fun _ _ _ h => h) rfl rfl (fun w hSw => ?_) hHeld ?_
            rotate_left
            · (go_simp; try with_reducible rfl)
            try simp only [Act.put, List.setIfInBounds_toArray, List.set_cons_zero, List.set_cons_succ]
            refine wpAnyH_done (by kernel_rfl) ?_ _
            go_wp2
            refine bodyPost_ret (results_cell_tmp Try.results21 _ _ (w.heap.size + 1 + 1) 23 (feC (ab (S1 * (rc u v) % P))) _ (.bool true) rfl rfl (Blk.setRow Q2 _) Try.underlying23 rfl feInfo) rfl ⟨?_, CF.setRowNew (by omega) _⟩
            rw [HR.out, HO.out]
          exact AllReadyH.nil
        exact AllReadyH.nil
      exact AllReadyH.nil

end Go.Proofs.Ytialljmkkichiab
