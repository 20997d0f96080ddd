/- scalar.Reduce of any bytes. -/
import Derived.Test.YthpfdnkcepfbaaaDoorMgB
import Derived.Test.YthpfdnkcepfbaaaDoorDec
set_option linter.unusedVariables false
set_option linter.unusedSimpArgs false
set_option linter.unnecessarySimpa false
namespace Go.Proofs.YthpfdnkcepfbaaaDoor
open Go.RowKit N

theorem addr_add (g o j : Nat) : (Addr.add ⟨g, o, none⟩ j) = ⟨g, o + j, none⟩ := by
  by_cases h0 : j = 0
  · subst h0; simp [Addr.add]
  · simp [Addr.add, h0]
/-- 2^256 modulo the order. -/
def shN : Int := 7237005577332262213973186563042994240413239274941949949428319933631315875101
theorem shRL : RL shN := ⟨by unfold shN; decide, by unfold shN; decide⟩
theorem sh_mod (x : Int) : (x * shN) % L = (x * 115792089237316195423570985008687907853269984665640564039457584007913129639936) % L := by
  rw [Int.mul_emod x 115792089237316195423570985008687907853269984665640564039457584007913129639936, show (115792089237316195423570985008687907853269984665640564039457584007913129639936 : Int) % L = shN from by unfold L shN; decide, Int.mul_emod x shN, show shN % L = shN from by unfold L shN; decide]
theorem shift_val (f : Nat → Nat) (e st m n : Nat) (he : e ≤ n) (hs : st + m = e) (h : e = n ∨ m = 32) :
    (((nb f st m : Nat) : Int) % L + ((nb f e (n - e) : Nat) : Int) % L * shN) % L = ((nb f st (n - st) : Nat) : Int) % L := by
  have e1 : nb f st (n - st) = nb f st m + 256 ^ m * nb f e (n - e) := by
    rw [show n - st = m + (n - e) by omega, nb_add, hs]
  rw [e1, Int.add_emod, Int.emod_emod_of_dvd _ (Int.dvd_refl L)]
  rcases h with rfl | rfl
  · have e2 : nb f e (e - e) = 0 := by rw [Nat.sub_self]; rfl
    rw [e2, Nat.mul_zero, Nat.add_zero]
    have z : (((0 : Nat) : Int) % L * shN) % L = 0 := by rw [show ((0 : Nat) : Int) % L = 0 from by unfold L; decide, Int.zero_mul]; unfold L; decide
    rw [z, Int.add_zero, Int.emod_emod_of_dvd _ (Int.dvd_refl L)]
  · rw [Int.mul_emod (((nb f e (n - e) : Nat) : Int) % L), Int.emod_emod_of_dvd _ (Int.dvd_refl L), ← Int.mul_emod, sh_mod, Int.natCast_add, Int.add_emod (((nb f st 32 : Nat) : Int)), Int.natCast_mul, Int.mul_comm]
    rfl
theorem nb0L (f : Nat → Nat) (k : Nat) : ((nb f k 0 : Nat) : Int) % L = 0 := by show ((0 : Nat) : Int) % L = 0; decide
theorem wd4_sh : wd4 shN = #[.int .u64 15486807595281847581, .int .u64 14334777244411350896, .int .u64 18446744073709551614, .int .u64 1152921504606846975] := by kernel_rfl
set_option maxHeartbeats 8000000 in
set_option maxRecDepth 100000 in
theorem power256_s (w : World) : Calls Tryd.prog 138 #[] w fun e w' => e = .returned (.agg (wd4 shN)) ∧ Chg w w' [] := by
  rw [wd4_sh]
  have A := Blk.new w #[.int .u64 0, .int .u64 0, .int .u64 0, .int .u64 0] 248
  have CC := (Chg.refl w []).alloc (.cells #[.int .u64 0, .int .u64 0, .int .u64 0, .int .u64 0] 248)
  go_enter Tryd.func138, Tryd.ntmps138
  go_wp2_with fail
  exact bodyPost_ret (results_cell_row Tryd.results138 _ _ w.heap.size 248 #[.int .u64 15486807595281847581, .int .u64 14334777244411350896, .int .u64 18446744073709551614, .int .u64 1152921504606846975] (0, 0) _ rfl (Blk.new w #[.int .u64 15486807595281847581, .int .u64 14334777244411350896, .int .u64 18446744073709551614, .int .u64 1152921504606846975] 248) Tryd.underlying248 rfl numInfo) rfl ⟨rfl, (Chg.refl w []).alloc _⟩
attribute [local irreducible] nb shN L
set_option maxHeartbeats 8000000 in
set_option maxRecDepth 100000 in
theorem Reduce_b (g o cap n : Nat) (f : Nat → Nat) (hcap : n ≤ cap) (hcap2 : cap ≤ 9223372036854775807) (hn : n ≤ 140737488355328) (w : World) (HB : Bs w g o n f) :
    Calls Tryd.prog 104 #[.slice (some ⟨g, o, none⟩) n cap] w fun e w' => e = .returned (fe (((nb f 0 n : Nat) : Int) % L)) ∧ Chg w w' [] := by
  have hg := HB.lt
  have hfb := HB.bd
  have b0 := Blk.new w z32 86
  have CC := (Chg.refl w []).alloc (.cells z32 86)
  replace HB := HB.alloc (.cells z32 86)
  go_enter Tryd.func104, Tryd.ntmps104
  go_wp2_with fail
  refine (power256_s _).mono ?_
  rintro e v1 ⟨rfl, k⟩
  replace b0 := b0.chg k (by simp)
  replace HB := HB.chg k (by simp)
  replace CC := CC.trans1 k
  clear k
  have A := Blk.new v1 #[.int .u64 0, .int .u64 0, .int .u64 0, .int .u64 0] 248
  have hl1 : w.heap.size < v1.heap.size := b0.lt
  have hl2 : g < v1.heap.size := HB.lt
  have KX : Chg v1 ((((v1.alloc (.cells #[.int .u64 0, .int .u64 0, .int .u64 0, .int .u64 0] 248)).setRow v1.heap.size (wd4 shN)).alloc (.cells #[.int .u64 0, .int .u64 0, .int .u64 0, .int .u64 0] 248)).alloc (.cells #[.int .u64 0, .int .u64 0, .int .u64 0, .int .u64 0] 248)) [] := ((((Chg.refl v1 []).alloc (.cells #[.int .u64 0, .int .u64 0, .int .u64 0, .int .u64 0] 248)).setRowNew (Nat.le_refl _) _).alloc (.cells #[.int .u64 0, .int .u64 0, .int .u64 0, .int .u64 0] 248)).alloc (.cells #[.int .u64 0, .int .u64 0, .int .u64 0, .int .u64 0] 248)
  have b1 : NumAt ((((v1.alloc (.cells #[.int .u64 0, .int .u64 0, .int .u64 0, .int .u64 0] 248)).setRow v1.heap.size (wd4 shN)).alloc (.cells #[.int .u64 0, .int .u64 0, .int .u64 0, .int .u64 0] 248)).alloc (.cells #[.int .u64 0, .int .u64 0, .int .u64 0, .int .u64 0] 248)) v1.heap.size shN := ((A.setRow (wd4 shN)).alloc (.cells #[.int .u64 0, .int .u64 0, .int .u64 0, .int .u64 0] 248)).alloc (.cells #[.int .u64 0, .int .u64 0, .int .u64 0, .int .u64 0] 248)
  have b2 : NumAt ((((v1.alloc (.cells #[.int .u64 0, .int .u64 0, .int .u64 0, .int .u64 0] 248)).setRow v1.heap.size (wd4 shN)).alloc (.cells #[.int .u64 0, .int .u64 0, .int .u64 0, .int .u64 0] 248)).alloc (.cells #[.int .u64 0, .int .u64 0, .int .u64 0, .int .u64 0] 248)) (v1.heap.size + 1) 0 := by have h := (NumAt.new ((v1.alloc (.cells #[.int .u64 0, .int .u64 0, .int .u64 0, .int .u64 0] 248)).setRow v1.heap.size (wd4 shN))).alloc (.cells #[.int .u64 0, .int .u64 0, .int .u64 0, .int .u64 0] 248); simpa using h
  have b3 : An ((((v1.alloc (.cells #[.int .u64 0, .int .u64 0, .int .u64 0, .int .u64 0] 248)).setRow v1.heap.size (wd4 shN)).alloc (.cells #[.int .u64 0, .int .u64 0, .int .u64 0, .int .u64 0] 248)).alloc (.cells #[.int .u64 0, .int .u64 0, .int .u64 0, .int .u64 0] 248)) (v1.heap.size + 2) := by have h := (NumAt.new (((v1.alloc (.cells #[.int .u64 0, .int .u64 0, .int .u64 0, .int .u64 0] 248)).setRow v1.heap.size (wd4 shN)).alloc (.cells #[.int .u64 0, .int .u64 0, .int .u64 0, .int .u64 0] 248))); have h2 : NumAt ((((v1.alloc (.cells #[.int .u64 0, .int .u64 0, .int .u64 0, .int .u64 0] 248)).setRow v1.heap.size (wd4 shN)).alloc (.cells #[.int .u64 0, .int .u64 0, .int .u64 0, .int .u64 0] 248)).alloc (.cells #[.int .u64 0, .int .u64 0, .int .u64 0, .int .u64 0] 248)) (v1.heap.size + 2) 0 := (by simpa using h); exact h2.an
  replace b0 := b0.chg KX (by simp)
  replace HB := HB.chg KX (by simp)
  replace CC := CC.trans1 KX
  clear KX
  go_wp2_with (refine wpList_store_row rfl 248 _ _ rfl v1.heap.size (wd4 shN) rfl rfl 248 _ A numInfo rfl (by simp [wd4, Value.oneCell']) ?_)
  clear A
  change Code.wp _ _ _ _ ((((v1.alloc (.cells #[.int .u64 0, .int .u64 0, .int .u64 0, .int .u64 0] 248)).setRow v1.heap.size (wd4 shN)).alloc (.cells #[.int .u64 0, .int .u64 0, .int .u64 0, .int .u64 0] 248)).alloc (.cells #[.int .u64 0, .int .u64 0, .int .u64 0, .int .u64 0] 248))
  generalize ((((v1.alloc (.cells #[.int .u64 0, .int .u64 0, .int .u64 0, .int .u64 0] 248)).setRow v1.heap.size (wd4 shN)).alloc (.cells #[.int .u64 0, .int .u64 0, .int .u64 0, .int .u64 0] 248)).alloc (.cells #[.int .u64 0, .int .u64 0, .int .u64 0, .int .u64 0] 248)) = v2 at *
  generalize v1.heap.size = gx at *
  go_loopw [6] (fun t wr => ∃ e : Nat, e ≤ n ∧ (e = n ∨ ∃ q, e = 32 * q) ∧ t = .int .i64 (e : Int) ∧ Blk wr w.heap.size z32 86 ∧ NumAt wr gx shN ∧ NumAt wr (gx + 1) (((nb f e (n - e) : Nat) : Int) % L) ∧ An wr (gx + 2) ∧ Bs wr g o n f ∧ Chg w wr []) (fun t _ => (intOf t).toNat)
  case atStart => exact ⟨n, Nat.le_refl _, Or.inl rfl, rfl, b0, b1, by rw [Nat.sub_self, nb0L]; exact b2, b3, HB, CC⟩
  case round =>
    obtain ⟨e, hen, heq, rfl, c0, c1, c2, c3, cB, cC⟩ := hrel
    clear b0 b1 b2 b3 HB CC
    by_cases he0 : e = 0
    · subst he0
      rw [Nat.sub_zero] at c2
      have hneg : ¬ (0 : Int) < ((0 : Nat) : Int) := by omega
      go_wp2_with fail
      refine (bytes_any (gx + 1) _ (r256_mod _) _ c2).mono ?_
      rintro e v3 ⟨rfl, k⟩
      replace c0 := c0.chg k (by simp)
      replace cC := cC.trans1 k
      go_wp2_with (refine wpList_store_row rfl 86 _ _ rfl w.heap.size _ rfl rfl 86 _ c0 feInfo rfl (feC_one _) ?_)
      exact bodyPost_ret (results_cell_row Tryd.results104 _ _ w.heap.size 86 (feC (((nb f 0 n : Nat) : Int) % L)) (0, 0) _ rfl (Blk.setRow c0 _) Tryd.underlying86 rfl feInfo) rfl ⟨rfl, cC.setRowNew (Nat.le_refl _) _⟩
    · obtain ⟨q, hq⟩ : ∃ q, (e - 1) / 32 = q := ⟨_, rfl⟩
      obtain ⟨st, hst⟩ : ∃ st, st = 32 * q := ⟨_, rfl⟩
      have HQ : Hid (st = 32 * q) := hst
      obtain ⟨m, hm⟩ : ∃ m, m = e - st := ⟨_, rfl⟩
      have hm32 : m ≤ 32 := by omega
      have hsm : st + m = e := by omega
      have hx32 : e = n ∨ m = 32 := by
        rcases heq with h | ⟨q', h⟩
        · exact Or.inl h
        · exact Or.inr (by omega)
      have HV : Hid ((((nb f st m : Nat) : Int) % L + ((nb f e (n - e) : Nat) : Int) % L * shN) % L = ((nb f st (n - st) : Nat) : Int) % L) := shift_val f e st m n hen hsm hx32
      have hpos : (0 : Int) < (e : Int) := by omega
      have hst0 : (0 : Int) ≤ (st : Int) := by omega
      have hse : (st : Int) ≤ (e : Int) := by omega
      have hec : (e : Int) ≤ (cap : Int) := by omega
      have hdm : ((e : Int) - (st : Int)).toNat = m := by omega
      have hbd : ∀ j, st ≤ j → j < st + m → f j < 256 := fun j _ h2 => hfb j (by omega)
      have hpl2 : (pieceL f st m).length = m := by simp [pieceL]
      have hpl : (pieceL f st m).length = Nat.min m 32 := by rw [hpl2]; exact (Nat.min_eq_left hm32).symm
      have rp : R256 ((nb f st m : Nat) : Int) := by
        have h1 := nb_lt f m st hbd
        have h2 : 256 ^ m ≤ 256 ^ 32 := Nat.pow_le_pow_right (by decide) hm32
        unfold R256
        omega
      obtain ⟨y, hy⟩ : ∃ y, y = e - 1 := ⟨_, rfl⟩
      have e1 : IntKind.i64.wrap ((e : Int) - 1) = (y : Int) := by rw [IntKind.wrap_i64]; omega
      have hdv : (y : Int) / 32 = (q : Int) := by omega
      have hwq1 : IntKind.i64.wrap (q : Int) = (q : Int) := by rw [IntKind.wrap_i64]; omega
      have hwq : IntKind.i64.wrap ((q : Int) * 32) = (st : Int) := by rw [IntKind.wrap_i64]; omega
      have b0 := c0.alloc (.cells z32 86)
      have b1 := c1.alloc (.cells z32 86)
      have b2 := c2.alloc (.cells z32 86)
      have b3 := c3.chg ((Chg.refl wr []).alloc (.cells z32 86)) (by simp)
      have HB := cB.alloc (.cells z32 86)
      have CC := cC.alloc (.cells z32 86)
      have PC := Blk.new wr z32 86
      have hp1 : w.heap.size < wr.heap.size := c0.lt
      have hp2 : gx < wr.heap.size := Blk.lt c1
      have hp3 : gx + 1 < wr.heap.size := Blk.lt c2
      have hp4 : gx + 2 < wr.heap.size := c3.lt
      have hp5 : g < wr.heap.size := cB.lt
      have hcs : ¬ cap = st := by omega
      have hms : e - st = m := by omega
      have hstl : st < e := by omega
      clear c0 c1 c2 c3 cB cC hq hy hst hm hdm hx32 heq
      go_wp2_with fail
      change Code.wp _ _ _ _ (wr.alloc (.cells z32 86))
      generalize wr.alloc (.cells z32 86) = wr1 at *
      generalize wr.heap.size = pc at *
      refine wp_region_held_drew (S := fun w' => Chg wr1 w' [pc]) (by kernel_rfl) ((Chg.refl wr1 _).drew) (fun hHeld => ?_)
      replace PC := PC.drew
      refine take_val (v := (.slice (some ⟨pc, 0, none⟩) 32 32)) 0 (some 18) rfl (by kernel_rfl) (by kernel_rfl) (by kernel_rfl) (fun _ _ _ h => h) rfl rfl (fun w hSw => ?_) hHeld ?_
      · (go_simp; try with_reducible rfl)
      try simp only [Act.put, List.setIfInBounds_toArray, List.set_cons_zero, List.set_cons_succ]
      refine take_val (v := ?_) 1 (some 19) rfl (by kernel_rfl) (by kernel_rfl) (by kernel_rfl) (fun _ _ _ h => h) rfl rfl (fun w hSw => ?_) hHeld ?_
      rotate_left
      · (go_simp; try with_reducible rfl)
      try simp only [Act.put, List.setIfInBounds_toArray, List.set_cons_zero, List.set_cons_succ]
      refine take_val (v := ?_) 2 (some 20) rfl (by kernel_rfl) (by kernel_rfl) (by kernel_rfl) (fun _ _ _ h => h) rfl rfl (fun w hSw => ?_) hHeld ?_
      rotate_left
      · (go_simp; try with_reducible rfl)
      try simp only [Act.put, List.setIfInBounds_toArray, List.set_cons_zero, List.set_cons_succ]
      refine take_val (v := ?_) 3 (some 21) rfl (by kernel_rfl) (by kernel_rfl) (by kernel_rfl) (fun _ _ _ h => h) rfl rfl (fun w hSw => ?_) hHeld ?_
      rotate_left
      · (go_simp; try with_reducible rfl)
      try simp only [Act.put, List.setIfInBounds_toArray, List.set_cons_zero, List.set_cons_succ]
      refine take_val (v := (.slice (some ⟨g, o + st, none⟩) m (cap - st))) 4 (some 22) rfl (by kernel_rfl) (by kernel_rfl) (by kernel_rfl) (fun _ _ _ h => h) rfl rfl (fun w hSw => ?_) hHeld ?_
      · (go_simp; try omega)
      try simp only [Act.put, List.setIfInBounds_toArray, List.set_cons_zero, List.set_cons_succ]
      refine wpAnyH_ready (rs := [5]) (by kernel_rfl) (by simp) ?_
      refine AllReadyH.cons (o := _) rfl (fun K hK => ?_) ?_
      ·
        refine step_copy rfl _ _ 22 22 rfl 5 (by kernel_rfl) (by kernel_rfl) pc 32 32 ⟨g, o + st, none⟩ m (cap - st) rfl rfl z32 86 PC (pieceL f st m) hpl (fun j v hv => ?_) (by rw [hpl2]; exact hm32) (piece_one _ _ _) (feC ((nb f st m : Nat) : Int)) (piece_row f st m hm32 hbd) ?_
        ·
          obtain ⟨hj, rfl⟩ := piece_cell _ _ _ _ _ hv
          have := HB.drew.cell (st + j) (by omega)
          rw [show (Addr.add ⟨g, o + st, none⟩ j) = ⟨g, o + st + j, none⟩ from addr_add g (o + st) j, Nat.add_assoc]
          exact this
        refine hK.out _ _ (hHeld.trans1 (Chg.of (gb_setRow (gb_refl _ _) _))) (fun hHeld => ?_)
        clear hK K
        try simp only [Act.put, List.setIfInBounds_toArray, List.set_cons_zero, List.set_cons_succ]
        refine wpAnyH_done (by kernel_rfl) ?_ _
        have PC2 := PC.setRow (feC ((nb f st m : Nat) : Int))
        generalize World.setRow _ pc (feC ((nb f st m : Nat) : Int)) = wp at hHeld PC2 ⊢
        replace b0 := b0.chg hHeld (by simp only [List.mem_singleton]; omega)
        replace b1 := b1.chg hHeld (by simp only [List.mem_singleton]; omega)
        replace b2 := b2.chg hHeld (by simp only [List.mem_singleton]; omega)
        replace b3 := b3.chg hHeld (by simp only [List.mem_singleton]; omega)
        replace HB := HB.chg hHeld (by simp only [List.mem_singleton]; omega)
        replace CC := CC.new hHeld (by omega)
        clear hHeld PC
        go_wp2_with fail
        refine (load_any (gx + 2) pc ((nb f st m : Nat) : Int) rp (by omega) _ b3 PC2).mono ?_
        rintro e wq ⟨rfl, q3, k⟩
        replace b0 := b0.chg k (by simp only [List.mem_singleton]; omega)
        replace b1 := b1.chg k (by simp only [List.mem_singleton]; omega)
        replace b2 := b2.chg k (by simp only [List.mem_singleton]; omega)
        replace HB := HB.chg k (by simp only [List.mem_singleton]; omega)
        replace CC := CC.new k (by omega)
        clear k b3 PC2
        go_wp2_with fail
        refine (mulAdd_any (gx + 1) (gx + 1) gx (gx + 2) _ _ _ (rl_mod _) shRL (rl_mod _) _ b2.an b2 b1 q3).mono ?_
        rintro e wz ⟨rfl, q2, k⟩
        rw [HV.out] at q2
        replace b0 := b0.chg k (by simp only [List.mem_singleton]; omega)
        replace b1 := b1.chg k (by simp only [List.mem_singleton]; omega)
        have b3 := (q3.chg k (by simp only [List.mem_singleton]; omega)).an
        replace HB := HB.chg k (by simp only [List.mem_singleton]; omega)
        replace CC := CC.new k (by omega)
        clear k b2 q3
        go_wp2_with fail
        exact ⟨⟨st, by omega, Or.inr ⟨q, HQ.out⟩, rfl, b0, b1, q2, b3, HB, CC⟩, by simp [intOf]; omega⟩
      exact AllReadyH.nil
end Go.Proofs.YthpfdnkcepfbaaaDoor
