/- rimelaw02.back: the number of signed digits. -/
import Derived.Test.YtcdgkhejbdlapabCmM
import Derived.Test.YtcdgkhejbdlapabRdN
import Derived.Deep.DeepCutAuto
set_option linter.unusedVariables false
set_option linter.unusedSimpArgs false
set_option linter.unnecessarySimpa false
namespace Go.Proofs.Ytcdgkhejbdlapab
open Go.RowKit N

theorem feC_u8 (n : Nat) (h : n < 256) : #[Value.int .u8 (n : Int), .int .u8 0, .int .u8 0, .int .u8 0, .int .u8 0, .int .u8 0, .int .u8 0, .int .u8 0, .int .u8 0, .int .u8 0, .int .u8 0, .int .u8 0, .int .u8 0, .int .u8 0, .int .u8 0, .int .u8 0, .int .u8 0, .int .u8 0, .int .u8 0, .int .u8 0, .int .u8 0, .int .u8 0, .int .u8 0, .int .u8 0, .int .u8 0, .int .u8 0, .int .u8 0, .int .u8 0, .int .u8 0, .int .u8 0, .int .u8 0, .int .u8 0] = feC (n : Int) := by
  apply Array.ext_getElem?
  intro i
  by_cases hi : i < 32
  · rw [feC_get _ i hi, by8_nat]
    by_cases h0 : i = 0
    · subst h0
      rw [Nat.pow_zero, Nat.div_one, Nat.mod_eq_of_lt h]
      rfl
    · have hp : 256 ^ 1 ≤ 256 ^ i := Nat.pow_le_pow_right (by decide) (by omega)
      rw [Nat.div_eq_of_lt (by omega)]
      have hz : i = 1 ∨ i = 2 ∨ i = 3 ∨ i = 4 ∨ i = 5 ∨ i = 6 ∨ i = 7 ∨ i = 8 ∨ i = 9 ∨ i = 10 ∨ i = 11 ∨ i = 12 ∨ i = 13 ∨ i = 14 ∨ i = 15 ∨ i = 16 ∨ i = 17 ∨ i = 18 ∨ i = 19 ∨ i = 20 ∨ i = 21 ∨ i = 22 ∨ i = 23 ∨ i = 24 ∨ i = 25 ∨ i = 26 ∨ i = 27 ∨ i = 28 ∨ i = 29 ∨ i = 30 ∨ i = 31 := by omega
      clear hp h h0 hi
      rcases hz with rfl | rfl | rfl | rfl | rfl | rfl | rfl | rfl | rfl | rfl | rfl | rfl | rfl | rfl | rfl | rfl | rfl | rfl | rfl | rfl | rfl | rfl | rfl | rfl | rfl | rfl | rfl | rfl | rfl | rfl | rfl <;> rfl
  · rw [Array.getElem?_eq_none (by simp; omega), Array.getElem?_eq_none (by rw [feC_size]; omega)]
/-- The number of the top c of N digits, Horner's way. -/
def hv (f : Nat → Int) (R : Int) (N : Nat) : Nat → Int
  | 0 => 0
  | c + 1 => hv f R N c * R + f (N - 1 - c)
theorem hv_sg (f : Nat → Int) (R : Int) (N : Nat) : ∀ c, c ≤ N → sg f R N = sg f R (N - c) + R ^ (N - c) * hv f R N c
  | 0, _ => by show _ = sg f R (N - 0) + R ^ (N - 0) * 0; rw [Nat.sub_zero, Int.mul_zero, Int.add_zero]
  | c + 1, h => by
    have ih := hv_sg f R N c (by omega)
    obtain ⟨k, hk⟩ : ∃ k, N - c = k + 1 := ⟨N - c - 1, by omega⟩
    have e1 : N - (c + 1) = k := by omega
    have e2 : N - 1 - c = k := by omega
    rw [ih, hk, e1]
    show sg f R k + f k * R ^ k + R ^ (k + 1) * hv f R N c = sg f R k + R ^ k * (hv f R N c * R + f (N - 1 - c))
    rw [e2, Int.pow_succ]
    generalize sg f R k = a
    generalize hv f R N c = b
    generalize f k = d
    generalize R ^ k = e
    grind
theorem hv_0 (f : Nat → Int) (R : Int) (N : Nat) : hv f R N 0 = 0 := rfl
theorem hv_succ (f : Nat → Int) (R : Int) (N c : Nat) : hv f R N (c + 1) = hv f R N c * R + f (N - 1 - c) := rfl
theorem hv_all (f : Nat → Int) (R : Int) (N : Nat) : hv f R N N = sg f R N := by
  have h := hv_sg f R N N (Nat.le_refl _)
  rw [Nat.sub_self] at h
  rw [h]
  show _ = 0 + R ^ 0 * hv f R N N
  rw [Int.pow_zero]; omega
theorem Sub_is (a b R : Int) (ra : R256 a) (rb : R256 b) (hR : sb a b = R) (w : World) : Calls Try.prog 13 #[fe a, fe b] w fun e w' => e = .returned (fe R) ∧ Chg w w' [] := by
  subst hR
  exact Sub_o a b ra rb w
theorem step_add (V R x : Int) : ad (ml (V % L) R) x = (V * R + x) % L := by unfold ad ml; rw [m_add_l, Int.add_emod, m_mul_l, ← Int.add_emod]
theorem step_sub (V R x : Int) : sb (ml (V % L) R) x = (V * R - x) % L := by unfold sb ml; rw [m_sub_l, Int.sub_emod, m_mul_l, ← Int.sub_emod]
theorem ml_rr (a b : Int) : R256 (ml a b) := r256_mod _
theorem mB (N c : Nat) (h : c < N) : (((N : Int) - c - 1 - 1 + 1)).toNat < (((N : Int) - c - 1 + 1)).toNat := by omega
attribute [local irreducible] hv ml ad sb sg
set_option maxHeartbeats 16000000 in
set_option maxRecDepth 100000 in
theorem back_s (gs cap N : Nat) (f : Nat → Int) (Rn : Nat) (hR : Rn < 256) (hN : N ≤ 1000) (hf : ∀ i, i < N → -1000 ≤ f i ∧ f i ≤ 1000) (w : World) (hgs : gs < w.heap.size) (hc : ∀ i, i < N → w.cell? ⟨gs, i, none⟩ = some (.int .i64 (f i))) (T : Int) (hT : sg f (Rn : Int) N % L = T) :
    Calls Try.prog 27 #[.slice (some ⟨gs, 0, none⟩) N cap, .int .u8 (Rn : Int)] w fun e w' => e = .returned (fe T) ∧ Chg w w' [] := by
  have rR : R256 (Rn : Int) := ⟨by omega, by omega⟩
  have W0f : Blk (((w.alloc (.cells z32 23)).alloc (.cells z32 23)).setRow (w.heap.size + 1) (feC 0)) w.heap.size z32 23 := ((Blk.new w z32 23).alloc _).setRowOther (by omega) _
  have W1z : Blk ((w.alloc (.cells z32 23)).alloc (.cells z32 23)) (w.heap.size + 1) z32 23 := by have h := Blk.new (w.alloc (.cells z32 23)) z32 23; simpa using h
  have CC : Chg w (((w.alloc (.cells z32 23)).alloc (.cells z32 23)).setRow (w.heap.size + 1) (feC 0)) [] := (((Chg.refl w []).alloc _).alloc _).setRowNew (by omega) _
  have HC : Hid (∀ w', Chg w w' [] → ∀ i, i < N → w'.cell? ⟨gs, i, none⟩ = some (.int .i64 (f i))) := fun w' k i hi => by
    rw [← hc i hi]
    have e := k.block gs hgs (by simp)
    simp [World.cell?, e]
  go_enter Try.func27, Try.ntmps27
  go_wp2_with (first | (refine wpList_store_row rfl 23 _ _ rfl (w.heap.size + 1) _ rfl rfl 23 _ W1z feInfo rfl (feC_one _) ?_) | (refine gl_build (by rfl) 23 #[] rfl (feC 0) (by kernel_rfl) ?_))
  have F5 := W1z.setRow (feC 0)
  have F4 := W0f
  try (change Code.wp _ _ _ _ (((w.alloc (.cells z32 23)).alloc (.cells z32 23)).setRow (w.heap.size + 1) (feC 0)))
  generalize ((w.alloc (.cells z32 23)).alloc (.cells z32 23)).setRow (w.heap.size + 1) (feC 0) = v0 at *
  have hg5 : w.heap.size ≤ w.heap.size + 1 := by omega
  have hg4 : w.heap.size ≤ w.heap.size := Nat.le_refl _
  have hne : w.heap.size ≠ w.heap.size + 1 := by omega
  have hgs5 : ¬ gs = w.heap.size + 1 := by omega
  obtain ⟨g5, h5⟩ : ∃ g, w.heap.size + 1 = g := ⟨_, rfl⟩
  rw [h5] at F5 hg5 hne hgs5
  try rw [h5]
  obtain ⟨g4, h4⟩ : ∃ g, w.heap.size = g := ⟨_, rfl⟩
  have HG5 : Hid (w.heap.size ≤ g5) := hg5
  have HG4 : Hid (w.heap.size ≤ g4) := Nat.le_of_eq h4
  rw [h4] at F4 hne
  have HNE : Hid (g4 ≠ g5) := hne
  have HGS : Hid (¬ gs = g5) := hgs5
  have HG45 : Hid (w.heap.size = g4) := h4
  clear W0f W1z hg5 hg4 hne hgs5 h5 h4
  have h0 : hv f (Rn : Int) N 0 = 0 := hv_0 _ _ _
  go_loopw [6] (fun t wr => ∃ c : Nat, c ≤ N ∧ t = .int .i64 ((N : Int) - c - 1) ∧ Blk wr g5 (feC (hv f (Rn : Int) N c % L)) 23 ∧ Blk wr g4 z32 23 ∧ Chg w wr []) (fun t _ => (intOf t + 1).toNat)
  case atStart => exact ⟨0, Nat.zero_le _, by congr 1, by rw [h0]; exact F5, F4, CC⟩
  case round =>
    clear F5 F4 CC h0 hc
    obtain ⟨c, hcN, rfl, F5, F4, CC⟩ := hrel
    by_cases h : c < N
    · obtain ⟨j, hj⟩ : ∃ j, N - 1 - c = j := ⟨_, rfl⟩
      have hjI : (N : Int) - c - 1 = (j : Int) := by omega
      have hj0 : (0 : Int) ≤ (j : Int) := by omega
      have hjN : (j : Int) < (N : Int) := by omega
      have HJ : Hid ((j : Int) - 1 = (N : Int) - ((c + 1 : Nat) : Int) - 1) := by show (j : Int) - 1 = (N : Int) - ((c + 1 : Nat) : Int) - 1; omega
      have HC1 : Hid (c + 1 ≤ N) := h
      have HM : Hid ((intOf (.int .i64 ((j : Int) - 1)) + 1).toNat < (intOf (.int .i64 (j : Int)) + 1).toNat) := by show (intOf (.int .i64 ((j : Int) - 1)) + 1).toNat < (intOf (.int .i64 (j : Int)) + 1).toNat; simp [intOf] <;> omega
      have hjl : j < N := by omega
      have HBD : Hid (-1000 ≤ f j ∧ f j ≤ 1000) := hf j hjl
      have HCL : Hid (∀ w', Chg w w' [] → w'.cell? ⟨gs, j, none⟩ = some (.int .i64 (f j))) := fun w' k => HC.out w' k j hjl
      have HV : Hid (hv f (Rn : Int) N (c + 1) = hv f (Rn : Int) N c * (Rn : Int) + f j) := by show hv f (Rn : Int) N (c + 1) = hv f (Rn : Int) N c * (Rn : Int) + f j; rw [← hj]; exact hv_succ _ _ _ _
      rw [hjI]
      generalize f j = x at *
      obtain ⟨V, hV⟩ : ∃ V, hv f (Rn : Int) N c = V := ⟨_, rfl⟩
      rw [hV] at F5
      have HV2 : Hid (hv f (Rn : Int) N (c + 1) = V * (Rn : Int) + x) := by have h := HV.out; rw [hV] at h; exact h
      obtain ⟨r, hr⟩ : ∃ r, V % L = r := ⟨_, rfl⟩
      rw [hr] at F5
      have rr : R256 r := by rw [← hr]; exact r256_mod _
      obtain ⟨q1, hq1⟩ : ∃ q, ml r (Rn : Int) = q := ⟨_, rfl⟩
      have HQ1 : Hid (ml r (Rn : Int) = q1) := hq1
      have rq1 : R256 q1 := by rw [← hq1]; exact ml_rr _ _
      have HS : Hid (∀ y, ad q1 y = (V * (Rn : Int) + y) % L) := fun y => by rw [← hq1, ← hr]; exact step_add V _ y
      have HS2 : Hid (∀ y, sb q1 y = (V * (Rn : Int) - y) % L) := fun y => by rw [← hq1, ← hr]; exact step_sub V _ y
      clear hj hjI hjl hV hr hq1 h hcN HV HC hf
      go_wp2_with (refine wpList_load_row rfl 23 _ rfl g5 rfl 23 _ (0, 0) _ F5 Try.underlying23 rfl feInfo ?_)
      rw [feC_u8 Rn hR]
      refine (Mul_is' r (Rn : Int) q1 rr rR HQ1.out _).mono ?_
      rintro e y1 ⟨rfl, k⟩
      replace F5 := F5.chg k (by simp)
      replace F4 := F4.chg k (by simp)
      replace CC := CC.trans1 k
      clear k
      have K1 : Chg w (y1.setRow g5 (feC q1)) [] := CC.setRowNew HG5.out _
      have cx := HCL.out _ K1
      by_cases hx : x < 0
      · obtain ⟨xn, hxn⟩ : ∃ n : Nat, -x = (n : Int) := ⟨(-x).toNat, by omega⟩
        have hbd := HBD.out
        have e5 : IntKind.i64.wrap (-x) = (xn : Int) := by rw [hxn, IntKind.wrap_i64]; omega
        have e6 : IntKind.u64.wrap (xn : Int) = (xn : Int) := by rw [IntKind.wrap_u64]; omega
        have WX : Hid (Wo (xn : Int)) := ⟨by omega, by omega⟩
        have WR : Hid (R256 (xn : Int)) := ⟨by omega, by omega⟩
        obtain ⟨q2, hq2⟩ : ∃ q, sb q1 (xn : Int) = q := ⟨_, rfl⟩
        have HQ2 : Hid (sb q1 (xn : Int) = q2) := hq2
        have HE : Hid (feC q2 = feC (hv f (Rn : Int) N (c + 1) % L)) := by show feC q2 = feC (hv f (Rn : Int) N (c + 1) % L); rw [← hq2, HS2.out, HV2.out, ← hxn]; congr 2; omega
        clear hq2 hxn hbd
        go_upto_region 7 with (refine wpList_store_row rfl 23 _ _ rfl g5 (feC q1) rfl rfl 23 _ F5 feInfo rfl (feC_one _) ?_)
        replace F5 := F5.setRow (feC q1)
        replace F4 := F4.setRowOther HNE.out (feC q1)
        replace CC := K1
        try (change Code.wp _ _ _ _ (y1.setRow g5 (feC q1)))
        generalize y1.setRow g5 (feC q1) = y2 at *
        have CL : Hid (∀ w', Chg y2 w' [g5] → w'.cell? ⟨gs, j, none⟩ = some (.int .i64 x)) := fun w' k => HCL.out w' (CC.new k HG5.out)
        clear cx K1
        refine wp_region_held_drew (S := fun w' => Chg y2 w' [g5]) (by kernel_rfl) ((Chg.refl y2 _).drew) (fun hHeld => ?_)
        replace F5 := F5.drew
        replace F4 := F4.drew
        replace CC := CC.drew
        refine take_val (v := ?_) 1 (some 25) rfl (by kernel_rfl) (by kernel_rfl) (by kernel_rfl) (fun _ _ _ h => h) rfl rfl (fun w hSw => ?_) hHeld ?_
        rotate_left
        · (go_simp; try with_reducible rfl)
        try simp only [Act.put, List.setIfInBounds_toArray, List.set_cons_zero, List.set_cons_succ]
        refine take_val (v := ?_) 2 (some 26) rfl (by kernel_rfl) (by kernel_rfl) (by kernel_rfl) (fun _ _ _ h => h) rfl rfl (fun w hSw => ?_) hHeld ?_
        rotate_left
        · (go_simp; try with_reducible rfl)
        try simp only [Act.put, List.setIfInBounds_toArray, List.set_cons_zero, List.set_cons_succ]
        refine take_val (v := ?_) 3 (some 27) rfl (by kernel_rfl) (by kernel_rfl) (by kernel_rfl) (fun _ _ _ h => h) rfl rfl (fun w hSw => ?_) hHeld ?_
        rotate_left
        · (go_simp; try with_reducible rfl)
        try simp only [Act.put, List.setIfInBounds_toArray, List.set_cons_zero, List.set_cons_succ]
        refine take_val (v := ?_) 4 (some 28) rfl (by kernel_rfl) (by kernel_rfl) (by kernel_rfl) (fun _ _ _ h => h) rfl rfl (fun w hSw => ?_) hHeld ?_
        rotate_left
        · have c4 := CL.out w hSw
          (go_simp; try with_reducible rfl)
        try simp only [Act.put, List.setIfInBounds_toArray, List.set_cons_zero, List.set_cons_succ]
        refine take_val (v := (.int .i64 (xn : Int))) 5 (some 29) rfl (by kernel_rfl) (by kernel_rfl) (by kernel_rfl) (fun _ _ _ h => h) rfl rfl (fun w hSw => ?_) hHeld ?_
        · (go_simp; try with_reducible rfl)
        try simp only [Act.put, List.setIfInBounds_toArray, List.set_cons_zero, List.set_cons_succ]
        refine take_val (v := (.int .u64 (xn : Int))) 6 (some 30) rfl (by kernel_rfl) (by kernel_rfl) (by kernel_rfl) (fun _ _ _ h => h) rfl rfl (fun w hSw => ?_) hHeld ?_
        · (go_simp; try with_reducible rfl)
        try simp only [Act.put, List.setIfInBounds_toArray, List.set_cons_zero, List.set_cons_succ]
        refine wpAnyH_ready (rs := [0, 7]) (by kernel_rfl) (by simp) ?_
        refine AllReadyH.cons (o := _) rfl (fun K hK => ?_) ?_
        ·
          rw [if_pos (by rfl)]
          refine wp_load_row 23 _ rfl g5 rfl 23 _ (0, 0) _ F5 Try.underlying23 rfl feInfo ?_
          refine hK.out _ _ (hHeld) (fun hHeld => ?_)
          clear hK K
          try simp only [Act.put, List.setIfInBounds_toArray, List.set_cons_zero, List.set_cons_succ]
          refine wpAnyH_ready (rs := [7]) (by kernel_rfl) (by simp) ?_
          refine AllReadyH.cons (o := _) rfl (fun K hK => ?_) ?_
          ·
            go_simp
            refine (FromInt_s (xn : Int) WX.out _).mono ?_
            rintro e z7 ⟨rfl, k⟩
            replace F5 := F5.chg k (by simp)
            replace F4 := F4.chg k (by simp)
            replace CC := CC.trans1 k
            go_wp2_with fail
            refine hK.out _ _ (hHeld.trans1 k.wide) (fun hHeld => ?_)
            clear hK K
            try simp only [Act.put, List.setIfInBounds_toArray, List.set_cons_zero, List.set_cons_succ]
            clear k
            refine wpAnyH_ready (rs := [8]) (by kernel_rfl) (by simp) ?_
            refine AllReadyH.cons (o := _) rfl (fun K hK => ?_) ?_
            ·
              go_simp
              refine (Sub_is q1 (xn : Int) q2 rq1 WR.out HQ2.out _).mono ?_
              rintro e z8 ⟨rfl, k⟩
              replace F5 := F5.chg k (by simp)
              replace F4 := F4.chg k (by simp)
              replace CC := CC.trans1 k
              go_wp2_with fail
              refine hK.out _ _ (hHeld.trans1 k.wide) (fun hHeld => ?_)
              clear hK K
              try simp only [Act.put, List.setIfInBounds_toArray, List.set_cons_zero, List.set_cons_succ]
              clear k
              refine wpAnyH_ready (rs := [9]) (by kernel_rfl) (by simp) ?_
              refine AllReadyH.cons (o := _) rfl (fun K hK => ?_) ?_
              ·
                rw [if_pos (by rfl)]
                refine wp_store_row 23 _ _ rfl g5 _ rfl rfl 23 _ F5 feInfo rfl (feC_one _) ?_
                refine hK.out _ _ (hHeld.trans1 (Chg.of (gb_setRow (gb_refl _ _) _))) (fun hHeld => ?_)
                clear hK K
                try simp only [Act.put, List.setIfInBounds_toArray, List.set_cons_zero, List.set_cons_succ]
                refine wpAnyH_done (by kernel_rfl) ?_ _
                go_wp2_with fail
                exact ⟨⟨c + 1, HC1.out, by rw [HJ.out], (F5.setRow (feC q2)).to HE.out, F4.setRowOther HNE.out _, CC.setRowNew HG5.out _⟩, HM.out⟩
              exact AllReadyH.nil
            exact AllReadyH.nil
          exact AllReadyH.nil
        refine AllReadyH.cons (o := _) rfl (fun K hK => ?_) ?_
        ·
          go_simp
          refine (FromInt_s (xn : Int) WX.out _).mono ?_
          rintro e z7 ⟨rfl, k⟩
          replace F5 := F5.chg k (by simp)
          replace F4 := F4.chg k (by simp)
          replace CC := CC.trans1 k
          go_wp2_with fail
          refine hK.out _ _ (hHeld.trans1 k.wide) (fun hHeld => ?_)
          clear hK K
          try simp only [Act.put, List.setIfInBounds_toArray, List.set_cons_zero, List.set_cons_succ]
          clear k
          refine wpAnyH_ready (rs := [0]) (by kernel_rfl) (by simp) ?_
          refine AllReadyH.cons (o := _) rfl (fun K hK => ?_) ?_
          ·
            rw [if_pos (by rfl)]
            refine wp_load_row 23 _ rfl g5 rfl 23 _ (0, 0) _ F5 Try.underlying23 rfl feInfo ?_
            refine hK.out _ _ (hHeld) (fun hHeld => ?_)
            clear hK K
            try simp only [Act.put, List.setIfInBounds_toArray, List.set_cons_zero, List.set_cons_succ]
            refine wpAnyH_ready (rs := [8]) (by kernel_rfl) (by simp) ?_
            refine AllReadyH.cons (o := _) rfl (fun K hK => ?_) ?_
            ·
              go_simp
              refine (Sub_is q1 (xn : Int) q2 rq1 WR.out HQ2.out _).mono ?_
              rintro e z8 ⟨rfl, k⟩
              replace F5 := F5.chg k (by simp)
              replace F4 := F4.chg k (by simp)
              replace CC := CC.trans1 k
              go_wp2_with fail
              refine hK.out _ _ (hHeld.trans1 k.wide) (fun hHeld => ?_)
              clear hK K
              try simp only [Act.put, List.setIfInBounds_toArray, List.set_cons_zero, List.set_cons_succ]
              clear k
              refine wpAnyH_ready (rs := [9]) (by kernel_rfl) (by simp) ?_
              refine AllReadyH.cons (o := _) rfl (fun K hK => ?_) ?_
              ·
                rw [if_pos (by rfl)]
                refine wp_store_row 23 _ _ rfl g5 _ rfl rfl 23 _ F5 feInfo rfl (feC_one _) ?_
                refine hK.out _ _ (hHeld.trans1 (Chg.of (gb_setRow (gb_refl _ _) _))) (fun hHeld => ?_)
                clear hK K
                try simp only [Act.put, List.setIfInBounds_toArray, List.set_cons_zero, List.set_cons_succ]
                refine wpAnyH_done (by kernel_rfl) ?_ _
                go_wp2_with fail
                exact ⟨⟨c + 1, HC1.out, by rw [HJ.out], (F5.setRow (feC q2)).to HE.out, F4.setRowOther HNE.out _, CC.setRowNew HG5.out _⟩, HM.out⟩
              exact AllReadyH.nil
            exact AllReadyH.nil
          exact AllReadyH.nil
        exact AllReadyH.nil
      · obtain ⟨xn, rfl⟩ : ∃ n : Nat, x = (n : Int) := ⟨x.toNat, by omega⟩
        have hbd := HBD.out
        have e6 : IntKind.u64.wrap (xn : Int) = (xn : Int) := by rw [IntKind.wrap_u64]; omega
        have WX : Hid (Wo (xn : Int)) := ⟨by omega, by omega⟩
        have WR : Hid (R256 (xn : Int)) := ⟨by omega, by omega⟩
        obtain ⟨q2, hq2⟩ : ∃ q, ad q1 (xn : Int) = q := ⟨_, rfl⟩
        have HQ2 : Hid (ad q1 (xn : Int) = q2) := hq2
        have HE : Hid (feC q2 = feC (hv f (Rn : Int) N (c + 1) % L)) := by show feC q2 = feC (hv f (Rn : Int) N (c + 1) % L); rw [← hq2, HS.out, HV2.out]
        clear hq2 hbd
        go_upto_region 8 with (refine wpList_store_row rfl 23 _ _ rfl g5 (feC q1) rfl rfl 23 _ F5 feInfo rfl (feC_one _) ?_)
        replace F5 := F5.setRow (feC q1)
        replace F4 := F4.setRowOther HNE.out (feC q1)
        replace CC := K1
        try (change Code.wp _ _ _ _ (y1.setRow g5 (feC q1)))
        generalize y1.setRow g5 (feC q1) = y2 at *
        have CL : Hid (∀ w', Chg y2 w' [g5] → w'.cell? ⟨gs, j, none⟩ = some (.int .i64 (xn : Int))) := fun w' k => HCL.out w' (CC.new k HG5.out)
        clear cx K1
        refine wp_region_held_drew (S := fun w' => Chg y2 w' [g5]) (by kernel_rfl) ((Chg.refl y2 _).drew) (fun hHeld => ?_)
        replace F5 := F5.drew
        replace F4 := F4.drew
        replace CC := CC.drew
        refine take_val (v := ?_) 1 (some 34) rfl (by kernel_rfl) (by kernel_rfl) (by kernel_rfl) (fun _ _ _ h => h) rfl rfl (fun w hSw => ?_) hHeld ?_
        rotate_left
        · (go_simp; try with_reducible rfl)
        try simp only [Act.put, List.setIfInBounds_toArray, List.set_cons_zero, List.set_cons_succ]
        refine take_val (v := ?_) 2 (some 35) rfl (by kernel_rfl) (by kernel_rfl) (by kernel_rfl) (fun _ _ _ h => h) rfl rfl (fun w hSw => ?_) hHeld ?_
        rotate_left
        · (go_simp; try with_reducible rfl)
        try simp only [Act.put, List.setIfInBounds_toArray, List.set_cons_zero, List.set_cons_succ]
        refine take_val (v := ?_) 3 (some 36) rfl (by kernel_rfl) (by kernel_rfl) (by kernel_rfl) (fun _ _ _ h => h) rfl rfl (fun w hSw => ?_) hHeld ?_
        rotate_left
        · (go_simp; try with_reducible rfl)
        try simp only [Act.put, List.setIfInBounds_toArray, List.set_cons_zero, List.set_cons_succ]
        refine take_val (v := ?_) 4 (some 37) rfl (by kernel_rfl) (by kernel_rfl) (by kernel_rfl) (fun _ _ _ h => h) rfl rfl (fun w hSw => ?_) hHeld ?_
        rotate_left
        · have c4 := CL.out w hSw
          (go_simp; try with_reducible rfl)
        try simp only [Act.put, List.setIfInBounds_toArray, List.set_cons_zero, List.set_cons_succ]
        refine take_val (v := (.int .u64 (xn : Int))) 5 (some 38) rfl (by kernel_rfl) (by kernel_rfl) (by kernel_rfl) (fun _ _ _ h => h) rfl rfl (fun w hSw => ?_) hHeld ?_
        · (go_simp; try with_reducible rfl)
        try simp only [Act.put, List.setIfInBounds_toArray, List.set_cons_zero, List.set_cons_succ]
        refine wpAnyH_ready (rs := [0, 6]) (by kernel_rfl) (by simp) ?_
        refine AllReadyH.cons (o := _) rfl (fun K hK => ?_) ?_
        ·
          rw [if_pos (by rfl)]
          refine wp_load_row 23 _ rfl g5 rfl 23 _ (0, 0) _ F5 Try.underlying23 rfl feInfo ?_
          refine hK.out _ _ (hHeld) (fun hHeld => ?_)
          clear hK K
          try simp only [Act.put, List.setIfInBounds_toArray, List.set_cons_zero, List.set_cons_succ]
          refine wpAnyH_ready (rs := [6]) (by kernel_rfl) (by simp) ?_
          refine AllReadyH.cons (o := _) rfl (fun K hK => ?_) ?_
          ·
            go_simp
            refine (FromInt_s (xn : Int) WX.out _).mono ?_
            rintro e z6 ⟨rfl, k⟩
            replace F5 := F5.chg k (by simp)
            replace F4 := F4.chg k (by simp)
            replace CC := CC.trans1 k
            go_wp2_with fail
            refine hK.out _ _ (hHeld.trans1 k.wide) (fun hHeld => ?_)
            clear hK K
            try simp only [Act.put, List.setIfInBounds_toArray, List.set_cons_zero, List.set_cons_succ]
            clear k
            refine wpAnyH_ready (rs := [7]) (by kernel_rfl) (by simp) ?_
            refine AllReadyH.cons (o := _) rfl (fun K hK => ?_) ?_
            ·
              go_simp
              refine (Add_is q1 (xn : Int) q2 rq1 WR.out HQ2.out _).mono ?_
              rintro e z7 ⟨rfl, k⟩
              replace F5 := F5.chg k (by simp)
              replace F4 := F4.chg k (by simp)
              replace CC := CC.trans1 k
              go_wp2_with fail
              refine hK.out _ _ (hHeld.trans1 k.wide) (fun hHeld => ?_)
              clear hK K
              try simp only [Act.put, List.setIfInBounds_toArray, List.set_cons_zero, List.set_cons_succ]
              clear k
              refine wpAnyH_ready (rs := [8]) (by kernel_rfl) (by simp) ?_
              refine AllReadyH.cons (o := _) rfl (fun K hK => ?_) ?_
              ·
                rw [if_pos (by rfl)]
                refine wp_store_row 23 _ _ rfl g5 _ rfl rfl 23 _ F5 feInfo rfl (feC_one _) ?_
                refine hK.out _ _ (hHeld.trans1 (Chg.of (gb_setRow (gb_refl _ _) _))) (fun hHeld => ?_)
                clear hK K
                try simp only [Act.put, List.setIfInBounds_toArray, List.set_cons_zero, List.set_cons_succ]
                refine wpAnyH_done (by kernel_rfl) ?_ _
                go_wp2_with fail
                exact ⟨⟨c + 1, HC1.out, by rw [HJ.out], (F5.setRow (feC q2)).to HE.out, F4.setRowOther HNE.out _, CC.setRowNew HG5.out _⟩, HM.out⟩
              exact AllReadyH.nil
            exact AllReadyH.nil
          exact AllReadyH.nil
        refine AllReadyH.cons (o := _) rfl (fun K hK => ?_) ?_
        ·
          go_simp
          refine (FromInt_s (xn : Int) WX.out _).mono ?_
          rintro e z6 ⟨rfl, k⟩
          replace F5 := F5.chg k (by simp)
          replace F4 := F4.chg k (by simp)
          replace CC := CC.trans1 k
          go_wp2_with fail
          refine hK.out _ _ (hHeld.trans1 k.wide) (fun hHeld => ?_)
          clear hK K
          try simp only [Act.put, List.setIfInBounds_toArray, List.set_cons_zero, List.set_cons_succ]
          clear k
          refine wpAnyH_ready (rs := [0]) (by kernel_rfl) (by simp) ?_
          refine AllReadyH.cons (o := _) rfl (fun K hK => ?_) ?_
          ·
            rw [if_pos (by rfl)]
            refine wp_load_row 23 _ rfl g5 rfl 23 _ (0, 0) _ F5 Try.underlying23 rfl feInfo ?_
            refine hK.out _ _ (hHeld) (fun hHeld => ?_)
            clear hK K
            try simp only [Act.put, List.setIfInBounds_toArray, List.set_cons_zero, List.set_cons_succ]
            refine wpAnyH_ready (rs := [7]) (by kernel_rfl) (by simp) ?_
            refine AllReadyH.cons (o := _) rfl (fun K hK => ?_) ?_
            ·
              go_simp
              refine (Add_is q1 (xn : Int) q2 rq1 WR.out HQ2.out _).mono ?_
              rintro e z7 ⟨rfl, k⟩
              replace F5 := F5.chg k (by simp)
              replace F4 := F4.chg k (by simp)
              replace CC := CC.trans1 k
              go_wp2_with fail
              refine hK.out _ _ (hHeld.trans1 k.wide) (fun hHeld => ?_)
              clear hK K
              try simp only [Act.put, List.setIfInBounds_toArray, List.set_cons_zero, List.set_cons_succ]
              clear k
              refine wpAnyH_ready (rs := [8]) (by kernel_rfl) (by simp) ?_
              refine AllReadyH.cons (o := _) rfl (fun K hK => ?_) ?_
              ·
                rw [if_pos (by rfl)]
                refine wp_store_row 23 _ _ rfl g5 _ rfl rfl 23 _ F5 feInfo rfl (feC_one _) ?_
                refine hK.out _ _ (hHeld.trans1 (Chg.of (gb_setRow (gb_refl _ _) _))) (fun hHeld => ?_)
                clear hK K
                try simp only [Act.put, List.setIfInBounds_toArray, List.set_cons_zero, List.set_cons_succ]
                refine wpAnyH_done (by kernel_rfl) ?_ _
                go_wp2_with fail
                exact ⟨⟨c + 1, HC1.out, by rw [HJ.out], (F5.setRow (feC q2)).to HE.out, F4.setRowOther HNE.out _, CC.setRowNew HG5.out _⟩, HM.out⟩
              exact AllReadyH.nil
            exact AllReadyH.nil
          exact AllReadyH.nil
        exact AllReadyH.nil
    · obtain rfl : c = N := by omega
      have hneg : ¬ (0 : Int) ≤ (c : Int) - (c : Int) - 1 := by omega
      rw [hv_all, hT] at F5
      replace F4 : Blk wr w.heap.size z32 23 := by rw [HG45.out]; exact F4
      clear HG45 HG4
      go_wp2_with (first | (refine wpList_load_row rfl 23 _ rfl g5 rfl 23 _ (0, 0) _ F5 Try.underlying23 rfl feInfo ?_) | (refine wpList_store_row rfl 23 _ _ rfl w.heap.size _ rfl rfl 23 _ F4 feInfo rfl (feC_one _) ?_))
      exact bodyPost_ret (results_cell_row Try.results27 _ _ w.heap.size 23 (feC T) (0, 0) _ rfl (Blk.setRow F4 _) Try.underlying23 rfl feInfo) rfl ⟨rfl, CC.setRowNew (Nat.le_refl _) _⟩
end Go.Proofs.Ytcdgkhejbdlapab
