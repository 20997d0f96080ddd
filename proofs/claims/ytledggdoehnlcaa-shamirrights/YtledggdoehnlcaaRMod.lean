/- rimeref02.Order, mod. -/
import Derived.Test.YtledggdoehnlcaaRTwice
set_option linter.unusedVariables false
set_option linter.unusedSimpArgs false
set_option linter.unnecessarySimpa false
namespace Go.Proofs.Ytledggdoehnlcaa
open Go.RowKit N

/-- Numbers in memory, as many as len, from ⟨g, o⟩ on. -/
structure Us (w : World) (g o len : Nat) (l : Nat → Nat) : Prop where
  lt : g < w.heap.size
  bd : ∀ i, i < len → l i < 4294967296
  cell : ∀ i, i < len → w.cell? ⟨g, o + i, none⟩ = some (.int .u32 ((l i : Nat) : Int))
theorem Us.chg {w w' : World} {g o len : Nat} {l : Nat → Nat} {ch : List Nat} (h : Us w g o len l) (hc : Chg w w' ch) (hb : ¬ g ∈ ch) : Us w' g o len l := by
  refine ⟨Nat.lt_of_lt_of_le h.lt hc.size, h.bd, fun i hi => ?_⟩
  rw [← h.cell i hi]
  simp only [World.cell?, hc.block g h.lt hb]
theorem Us.drew {w : World} {g o len : Nat} {l : Nat → Nat} (h : Us w g o len l) : Us w.drew g o len l := h.chg ((Chg.refl w []).drew) (by simp)
theorem Us.alloc {w : World} {g o len : Nat} {l : Nat → Nat} (h : Us w g o len l) (x : Obj) : Us (w.alloc x) g o len l := h.chg ((Chg.refl w []).alloc x) (by simp)
theorem Us.of {w : World} {g n : Nat} {f : Nat → Nat} {T : TypeId} (h : Blk w g (uC n f) T) (hf : ∀ i, i < n → f i < 4294967296) : Us w g 0 n f := ⟨h.lt, hf, fun i hi => by rw [h.cell, Nat.zero_add]; exact uC_get n f i hi⟩
theorem LN_dC : #[.int .u32 1559614445, .int .u32 1477600026, .int .u32 2734136534, .int .u32 350157278, .int .u32 0, .int .u32 0, .int .u32 0, .int .u32 268435456] = dC LN := by kernel_rfl
theorem LN_pos : 0 < LN := by unfold LN; decide
set_option maxHeartbeats 1000000 in
set_option maxRecDepth 100000 in
theorem Order_r (w : World) : Calls Try.prog 52 #[] w fun e w' => e = .returned (.agg (dC LN)) ∧ Chg w w' [] := by
  have B0 := Blk.new w z8u 67
  have C0 := (Chg.refl w []).alloc (.cells z8u 67)
  go_enter Try.func52, Try.ntmps52
  go_wp2_with (first | (refine gl_build (by rfl) 67 _ rfl (dC LN) (by kernel_rfl) ?_) | (refine wpList_store_row rfl 67 _ _ rfl w.heap.size _ rfl rfl 67 _ B0 NumInfo rfl (dC_one _) ?_))
  exact bodyPost_ret (results_cell_row Try.results52 _ _ w.heap.size 67 (dC LN) (0, 0) _ rfl (Blk.setRow B0 _) Try.underlying67 rfl NumInfo) rfl ⟨rfl, C0.setRowNew (Nat.le_refl _) _⟩
theorem bit32 (x k : Nat) (hx : x < 4294967296) : bits .and .u32 ((x : Int) / 2 ^ k) 1 = ((x / 2 ^ k % 2 : Nat) : Int) := by
  have e : (x : Int) / 2 ^ k = ((x / 2 ^ k : Nat) : Int) := by rw [Int.natCast_ediv, Int.natCast_pow]; rfl
  have hl : x / 2 ^ k ≤ x := Nat.div_le_self _ _
  rw [e]
  have h := u32_and_nat (x / 2 ^ k) 1 (by omega) (by omega)
  rw [nat_mask1] at h
  exact h
theorem bit_step32 (E x j : Nat) (hj : j < 32) : E * 2 ^ (32 - j) + x / 2 ^ j = 2 * (E * 2 ^ (32 - (j + 1)) + x / 2 ^ (j + 1)) + x / 2 ^ j % 2 := by
  have e1 : 32 - j = (32 - (j + 1)) + 1 := by omega
  rw [e1, Nat.pow_succ 2 (32 - (j + 1)), Nat.pow_succ 2 j, ← Nat.div_div_eq_div_mul, ← Nat.mul_assoc]
  omega
theorem mod_step (X b : Nat) : (2 * (X % LN) + b) % LN = (2 * X + b) % LN := by
  rw [Nat.add_mod, Nat.mul_mod, Nat.mod_mod, ← Nat.mul_mod, ← Nat.add_mod]

set_option maxHeartbeats 4000000 in
set_option maxRecDepth 100000 in
theorem mod_r (g o n cap : Nat) (l : Nat → Nat) (hn : n ≤ 140737488355328) (w : World) (hu : Us w g o n l) :
    Calls Try.prog 33 #[.slice (some ⟨g, o, none⟩) n cap] w fun e w' => e = .returned (.agg (dC (nv l 0 n % LN))) ∧ Chg w w' [] := by
  have hg := hu.lt
  have hu0 := hu
  have B0 : Blk ((w.alloc (.cells z8u 67)).alloc (.cells z8u 67)) w.heap.size z8u 67 := (Blk.new w z8u 67).alloc _
  have B1 : Blk ((w.alloc (.cells z8u 67)).alloc (.cells z8u 67)) (w.heap.size + 1) z8u 67 := by have h := Blk.new (w.alloc (.cells z8u 67)) z8u 67; simpa using h
  have C0 : Chg w ((w.alloc (.cells z8u 67)).alloc (.cells z8u 67)) [] := ((Chg.refl w []).alloc _).alloc _
  replace hu := (hu.alloc (.cells z8u 67)).alloc (.cells z8u 67)
  go_enter Try.func33, Try.ntmps33
  go_wp2_with fail
  refine (Order_r _).mono ?_
  rintro e v0 ⟨rfl, k⟩
  replace B0 := B0.chg k (by simp)
  replace B1 := B1.chg k (by simp)
  replace C0 := C0.trans1 k
  replace hu := hu.chg k (by simp)
  have sz := B1.lt
  clear k
  have A := Blk.new v0 z8u 67
  go_wp2_with (refine wpList_store_row rfl 67 _ _ rfl v0.heap.size _ rfl rfl 67 _ A NumInfo rfl (dC_one _) ?_)
  have A' := A.setRow (dC LN)
  have KS : Chg v0 ((v0.alloc (.cells z8u 67)).setRow v0.heap.size (dC LN)) [] := ((Chg.refl v0 []).alloc (.cells z8u 67)).setRowNew (Nat.le_refl _) (dC LN)
  replace B0 := B0.chg KS (by simp)
  replace B1 := B1.chg KS (by simp)
  replace C0 := C0.trans1 KS
  replace hu := hu.chg KS (by simp)
  clear A KS
  generalize hv1 : (v0.alloc (.cells z8u 67)).setRow v0.heap.size (dC LN) = v1 at A' B0 B1 C0 hu
  change Code.wp _ _ _ _ ((v0.alloc (.cells z8u 67)).setRow v0.heap.size (dC LN))
  rw [hv1]
  clear hv1
  generalize v0.heap.size = od at *
  have hor : ¬ od = w.heap.size + 1 := by omega
  have hgr : ¬ g = w.heap.size + 1 := by omega
  rw [z8u_dC] at B1
  go_loopw [5] (fun t wr => ∃ k : Nat, k ≤ n ∧ t = .int .i64 ((k : Int) - 1) ∧ Blk wr (w.heap.size + 1) (dC (nv l k (n - k) % LN)) 67 ∧ Blk wr od (dC LN) 67 ∧ Blk wr w.heap.size z8u 67 ∧ Us wr g o n l ∧ Chg w wr []) (fun t _ => (intOf t + 1).toNat)
  case atStart => exact ⟨n, Nat.le_refl _, rfl, by rw [Nat.sub_self, nv_zero, Nat.zero_mod]; exact B1, A', B0, hu, C0⟩
  case round =>
    obtain ⟨k, hk, rfl, r0, r1, r2, r3, r4⟩ := hrel
    clear B0 B1 C0 hu A'
    by_cases hk0 : k = 0
    · subst hk0
      have hneg : ¬ (0 : Int) ≤ ((0 : Nat) : Int) - 1 := by omega
      rw [Nat.sub_zero] at r0
      go_wp2_with (first | (refine wpList_load_row rfl 67 _ rfl (w.heap.size + 1) rfl 67 _ (0, 0) _ r0 Try.underlying67 rfl NumInfo ?_) | (refine wpList_store_row rfl 67 _ _ rfl w.heap.size _ rfl rfl 67 _ r2 NumInfo rfl (dC_one _) ?_))
      exact bodyPost_ret (results_cell_row Try.results33 _ _ w.heap.size 67 (dC (nv l 0 n % LN)) (0, 0) _ rfl (Blk.setRow r2 _) Try.underlying67 rfl NumInfo) rfl ⟨rfl, r4.setRowNew (Nat.le_refl _) _⟩
    · obtain ⟨i, rfl⟩ : ∃ i, k = i + 1 := ⟨k - 1, by omega⟩
      have e1 : (((i + 1 : Nat) : Int) - 1) = (i : Int) := by omega
      rw [e1]
      clear e1 hk0
      have hin : i < n := by omega
      have hI0 : (0 : Int) ≤ (i : Int) := by omega
      have hIn : (i : Int) < (n : Int) := by omega
      have hx := r3.bd i hin
      have HE : Hid (nv l i (n - i) = nv l (i + 1) (n - (i + 1)) * 2 ^ (32 - 0) + l i / 2 ^ 0) := by
        show nv l i (n - i) = nv l (i + 1) (n - (i + 1)) * 2 ^ (32 - 0) + l i / 2 ^ 0
        rw [show n - i = (n - (i + 1)) + 1 by omega, nv_succ, Nat.pow_zero, Nat.div_one]
        omega
      generalize nv l (i + 1) (n - (i + 1)) = E at *
      go_wp2_with fail
      go_loopw [6] (fun t wr => ∃ j : Nat, j ≤ 32 ∧ t = .int .i64 ((j : Int) - 1) ∧ Blk wr (w.heap.size + 1) (dC ((E * 2 ^ (32 - j) + l i / 2 ^ j) % LN)) 67 ∧ Blk wr od (dC LN) 67 ∧ Blk wr w.heap.size z8u 67 ∧ Us wr g o n l ∧ Chg w wr []) (fun t _ => (intOf t + 1).toNat)
      case atStart => exact ⟨32, by omega, rfl, by rw [Nat.sub_self, Nat.pow_zero, Nat.mul_one, Nat.div_eq_of_lt (by omega), Nat.add_zero]; exact r0, r1, r2, r3, r4⟩
      case round =>
        obtain ⟨j, hj, rfl, s0, s1, s2, s3, s4⟩ := hrel
        clear r0 r1 r2 r3 r4
        by_cases hj0 : j = 0
        · subst hj0
          have hneg : ¬ (0 : Int) ≤ ((0 : Nat) : Int) - 1 := by omega
          go_wp2_with fail
          exact ⟨⟨i, by omega, by go_num, by rw [HE.out]; exact s0, s1, s2, s3, s4⟩, by simp [intOf]⟩
        · obtain ⟨q, rfl⟩ : ∃ q, j = q + 1 := ⟨j - 1, by omega⟩
          have e1 : (((q + 1 : Nat) : Int) - 1) = (q : Int) := by omega
          rw [e1]
          clear e1 hj0
          have hq0 : (0 : Int) ≤ (q : Int) := by omega
          have hst : Hid (E * 2 ^ (32 - q) + l i / 2 ^ q = 2 * (E * 2 ^ (32 - (q + 1)) + l i / 2 ^ (q + 1)) + l i / 2 ^ q % 2) := bit_step32 E (l i) q (by omega)
          have hbit := bit32 (l i) q hx
          obtain ⟨bt, hbt'⟩ : ∃ bt, bt = l i / 2 ^ q % 2 := ⟨_, rfl⟩
          have hbt : bt < 2 := by omega
          rw [← hbt'] at hbit
          have HV : Hid ((2 * ((E * 2 ^ (32 - (q + 1)) + l i / 2 ^ (q + 1)) % LN) + bt) % LN = (E * 2 ^ (32 - q) + l i / 2 ^ q) % LN) := by
            show (2 * ((E * 2 ^ (32 - (q + 1)) + l i / 2 ^ (q + 1)) % LN) + bt) % LN = (E * 2 ^ (32 - q) + l i / 2 ^ q) % LN
            rw [mod_step, hbt', ← hst.out]
          clear hbt' hst
          have hrl := Nat.mod_lt (E * 2 ^ (32 - (q + 1)) + l i / 2 ^ (q + 1)) LN_pos
          generalize (E * 2 ^ (32 - (q + 1)) + l i / 2 ^ (q + 1)) % LN = r at *
          have hr2 : 2 * r + bt < 2 * LN := by omega
          have hw : IntKind.u64.wrap ((q : Nat) : Int) = ((q : Nat) : Int) := by rw [IntKind.wrap_u64]; omega
          have hmi : min q 32 = q := by omega
          go_wp2_with fail
          refine wp_region_held_drew (S := fun w' => Chg w w' []) (by kernel_rfl) (s4.drew) (fun hHeld => ?_)
          replace s0 := s0.drew
          replace s1 := s1.drew
          replace s2 := s2.drew
          replace s3 := s3.drew
          refine take_val (v := ?_) 1 (some 20) rfl (by kernel_rfl) (by kernel_rfl) (by kernel_rfl) (fun _ _ _ h => h) rfl rfl (fun w hSw => ?_) hHeld ?_
          rotate_left
          · (go_simp; try with_reducible rfl)
          try simp only [Act.put, List.setIfInBounds_toArray, List.set_cons_zero, List.set_cons_succ]
          refine take_val (v := ?_) 2 (some 21) rfl (by kernel_rfl) (by kernel_rfl) (by kernel_rfl) (fun _ _ _ h => h) rfl rfl (fun w hSw => ?_) hHeld ?_
          rotate_left
          · (go_simp; try with_reducible rfl)
          try simp only [Act.put, List.setIfInBounds_toArray, List.set_cons_zero, List.set_cons_succ]
          refine take_val (v := ?_) 3 (some 22) rfl (by kernel_rfl) (by kernel_rfl) (by kernel_rfl) (fun _ _ _ h => h) rfl rfl (fun w hSw => ?_) hHeld ?_
          rotate_left
          · (go_simp; try with_reducible rfl)
          try simp only [Act.put, List.setIfInBounds_toArray, List.set_cons_zero, List.set_cons_succ]
          refine take_val (v := ?_) 4 (some 23) rfl (by kernel_rfl) (by kernel_rfl) (by kernel_rfl) (fun _ _ _ h => h) rfl rfl (fun w hSw => ?_) hHeld ?_
          rotate_left
          · have cx := (hu0.chg hSw (by simp)).cell i hin
            (go_simp; try with_reducible rfl)
          try simp only [Act.put, List.setIfInBounds_toArray, List.set_cons_zero, List.set_cons_succ]
          refine take_val (v := ?_) 5 (some 24) rfl (by kernel_rfl) (by kernel_rfl) (by kernel_rfl) (fun _ _ _ h => h) rfl rfl (fun w hSw => ?_) hHeld ?_
          rotate_left
          · (go_simp; try with_reducible rfl)
          try simp only [Act.put, List.setIfInBounds_toArray, List.set_cons_zero, List.set_cons_succ]
          refine take_val (v := ?_) 6 (some 25) rfl (by kernel_rfl) (by kernel_rfl) (by kernel_rfl) (fun _ _ _ h => h) rfl rfl (fun w hSw => ?_) hHeld ?_
          rotate_left
          · (go_simp; try with_reducible rfl)
          try simp only [Act.put, List.setIfInBounds_toArray, List.set_cons_zero, List.set_cons_succ]
          refine take_val (v := ?_) 7 (some 26) rfl (by kernel_rfl) (by kernel_rfl) (by kernel_rfl) (fun _ _ _ h => h) rfl rfl (fun w hSw => ?_) hHeld ?_
          rotate_left
          · (go_simp; try with_reducible rfl)
          try simp only [Act.put, List.setIfInBounds_toArray, List.set_cons_zero, List.set_cons_succ]
          refine take_val (v := ?_) 8 (some 27) rfl (by kernel_rfl) (by kernel_rfl) (by kernel_rfl) (fun _ _ _ h => h) rfl rfl (fun w hSw => ?_) hHeld ?_
          rotate_left
          · (go_simp; try with_reducible rfl)
          try simp only [Act.put, List.setIfInBounds_toArray, List.set_cons_zero, List.set_cons_succ]
          refine wpAnyH_ready (rs := [0]) (by kernel_rfl) (by simp) ?_
          refine AllReadyH.cons (o := _) rfl (fun K hK => ?_) ?_
          ·
            rw [if_pos (by rfl)]
            refine wp_load_row 67 _ rfl (w.heap.size + 1) rfl 67 _ (0, 0) _ s0 Try.underlying67 rfl NumInfo ?_
            refine hK.out _ _ (hHeld) (fun hHeld => ?_)
            clear hK K
            try simp only [Act.put, List.setIfInBounds_toArray, List.set_cons_zero, List.set_cons_succ]
            refine wpAnyH_ready (rs := [9]) (by kernel_rfl) (by simp) ?_
            refine AllReadyH.cons (o := _) rfl (fun K hK => ?_) ?_
            ·
              go_simp
              refine (twice_r r bt hbt _).mono ?_
              rintro e ψ1 ⟨rfl, kc⟩
              replace s0 := s0.chg kc (by simp)
              replace s1 := s1.chg kc (by simp)
              replace s2 := s2.chg kc (by simp)
              replace s3 := s3.chg kc (by simp)
              go_wp2_with fail
              refine hK.out _ _ (hHeld.trans1 kc) (fun hHeld => ?_)
              clear hK K
              try simp only [Act.put, List.setIfInBounds_toArray, List.set_cons_zero, List.set_cons_succ]
              refine wpAnyH_ready (rs := [10]) (by kernel_rfl) (by simp) ?_
              refine AllReadyH.cons (o := _) rfl (fun K hK => ?_) ?_
              ·
                rw [if_pos (by rfl)]
                refine wp_store_row 67 _ _ rfl (w.heap.size + 1) _ rfl rfl 67 _ s0 NumInfo rfl (dC_one _) ?_
                refine hK.out _ _ (hHeld.setRowNew (by omega) _) (fun hHeld => ?_)
                clear hK K
                try simp only [Act.put, List.setIfInBounds_toArray, List.set_cons_zero, List.set_cons_succ]
                refine wpAnyH_done (by kernel_rfl) ?_ _
                replace s1 := s1.setRowOther hor (dC (2 * r + bt))
                replace s2 := s2.setRowOther (show ¬ w.heap.size = w.heap.size + 1 by omega) (dC (2 * r + bt))
                replace s3 := s3.chg (Chg.of (gb_setRow (k := w.heap.size + 1) (gb_refl _ _) (dC (2 * r + bt)))) (by simpa using hgr)
                replace s0 := s0.setRow (dC (2 * r + bt))
                clear s4
                have s4 := hHeld
                clear hHeld kc
                generalize World.setRow ψ1 (w.heap.size + 1) (dC (2 * r + bt)) = ψ2 at *
                clear hbit hw hmi hu0
                go_wp2_with (first | (refine wpList_load_row rfl 67 _ rfl (w.heap.size + 1) rfl 67 _ (0, 0) _ s0 Try.underlying67 rfl NumInfo ?_) | (refine wpList_load_row rfl 67 _ rfl od rfl 67 _ (0, 0) _ s1 Try.underlying67 rfl NumInfo ?_))
                refine (below_r (2 * r + bt) LN (by unfold LN at *; omega) (by unfold LN; decide) _).mono ?_
                rintro e ψ3 ⟨rfl, kc⟩
                replace s0 := s0.chg kc (by simp)
                replace s1 := s1.chg kc (by simp)
                replace s2 := s2.chg kc (by simp)
                replace s3 := s3.chg kc (by simp)
                replace s4 := s4.trans1 kc
                clear kc
                by_cases hlt : 2 * r + bt < LN
                · rw [decide_eq_true hlt]
                  go_wp2_with fail
                  exact ⟨⟨q, by omega, by go_num, by rw [← HV.out, Nat.mod_eq_of_lt hlt]; exact s0, s1, s2, s3, s4⟩, by simp [intOf]⟩
                · rw [decide_eq_false hlt]
                  go_wp2_with (first | (refine wpList_load_row rfl 67 _ rfl (w.heap.size + 1) rfl 67 _ (0, 0) _ s0 Try.underlying67 rfl NumInfo ?_) | (refine wpList_load_row rfl 67 _ rfl od rfl 67 _ (0, 0) _ s1 Try.underlying67 rfl NumInfo ?_))
                  refine (minus_r (2 * r + bt) LN (by omega) _).mono ?_
                  rintro e ψ4 ⟨rfl, kc⟩
                  replace s0 := s0.chg kc (by simp)
                  replace s1 := s1.chg kc (by simp)
                  replace s2 := s2.chg kc (by simp)
                  replace s3 := s3.chg kc (by simp)
                  replace s4 := s4.trans1 kc
                  clear kc
                  go_wp2_with (refine wpList_store_row rfl 67 _ _ rfl (w.heap.size + 1) _ rfl rfl 67 _ s0 (by rw [dC_size]; exact NumInfo) (by rw [dC_size, dC_size]) (dC_one _) ?_)
                  exact ⟨⟨q, by omega, by go_num, by rw [← HV.out, Nat.mod_eq_sub_mod (by omega), Nat.mod_eq_of_lt (by omega)]; exact s0.setRow _, s1.setRowOther hor _, s2.setRowOther (by omega) _, s3.chg (Chg.of (gb_setRow (k := w.heap.size + 1) (gb_refl _ _) _)) (by simpa using hgr), s4.setRowNew (by omega) _⟩, by simp [intOf]⟩
              exact AllReadyH.nil
            exact AllReadyH.nil
          exact AllReadyH.nil
end Go.Proofs.Ytledggdoehnlcaa
