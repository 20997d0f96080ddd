/- Joined: ShR1, ShIl. -/
import Derived.Test.YtcagkcglmcafgaaGreatMgD
import Derived.Test.YtcagkcglmcafgaaGreatMgC
import Derived.Test.YtcagkcglmcafgaaGreatAddsWalk
import Derived.Test.YtcagkcglmcafgaaGreatRBack
import Derived.Test.YtcagkcglmcafgaaGreatSh7
/- rimeref07.Place, Eval, At, IDs. -/
set_option linter.unusedVariables false
set_option linter.unusedSimpArgs false
set_option linter.unnecessarySimpa false
namespace Go.Proofs.YtcagkcglmcafgaaGreat
open Go.RowKit N

theorem by8_hi8 (n i : Nat) (hn : n < 18446744073709551616) (hi : 8 ≤ i) : by8 (n : Int) i = 0 := by
  rw [by8_nat]
  have h : 256 ^ 8 ≤ 256 ^ i := Nat.pow_le_pow_right (by decide) hi
  rw [Nat.div_eq_of_lt (by omega)]
  rfl
set_option maxHeartbeats 8000000 in
set_option maxRecDepth 100000 in
theorem FromInt_q (n : Nat) (hn : n < 18446744073709551616) (w : World) :
    Calls Tryz.prog 37 #[.int .u64 (n : Int)] w fun e w' => e = .returned (fe (n : Int)) ∧ Chg w w' [] := by
  have B1 : Blk ((w.alloc (.cells z32 24)).alloc (.cells z32 24)) w.heap.size z32 24 := (Blk.new w z32 24).alloc _
  have B2 : Blk ((w.alloc (.cells z32 24)).alloc (.cells z32 24)) (w.heap.size + 1) z32 24 := by have h := Blk.new (w.alloc (.cells z32 24)) z32 24; simpa using h
  have C0 : Chg w ((w.alloc (.cells z32 24)).alloc (.cells z32 24)) [] := ((Chg.refl w []).alloc _).alloc _
  rw [show z32 = b32 (bx (n : Int) 0) from b32_z32.symm] at B2
  go_enter Tryz.func37, Tryz.ntmps37
  go_wp2_with fail
  go_loopw [4] (fun t wr => ∃ i : Nat, i ≤ 8 ∧ t = .int .i64 (i : Int) ∧ Blk wr w.heap.size z32 24 ∧ Blk wr (w.heap.size + 1) (b32 (bx (n : Int) i)) 24 ∧ Chg w wr []) (fun t _ => (8 - intOf t).toNat)
  case atStart => exact ⟨0, by omega, rfl, B1, B2, C0⟩
  case round =>
    obtain ⟨i, hi, rfl, b1, b2, c0⟩ := hrel
    clear B1 B2 C0
    by_cases h8 : i < 8
    · have hI : (i : Int) < 8 := by omega
      have hI3 : (i : Int) < 32 := by omega
      have hw8 : IntKind.i64.wrap (8 * ((i : Nat) : Int)) = 8 * ((i : Nat) : Int) := by rw [IntKind.wrap_i64]; omega
      have hw : IntKind.u64.wrap (8 * ((i : Nat) : Int)) = 8 * ((i : Nat) : Int) := by rw [IntKind.wrap_u64]; omega
      have htn : (8 * ((i : Nat) : Int)).toNat = 8 * i := by omega
      have hmi : min (8 * i) 64 = 8 * i := by omega
      have cB := (b2.cell i).trans (b32_get _ i (by omega))
      have fB := b2.frozen i
      have hv : ((n : Int) / 2 ^ (8 * i)) % 256 = by8 (n : Int) i := by
        unfold by8
        rw [show (256 : Int) ^ i = 2 ^ (8 * i) from by rw [Int.pow_mul]; rfl]
      have b2n : Blk (wr.setCell ⟨w.heap.size + 1, i, none⟩ (.int .u8 (by8 (n : Int) i))) (w.heap.size + 1) (b32 (bx (n : Int) (i + 1))) 24 := (b2.setCell i _).to (b32_set _ _ _ _ (fun j _ => bx_step _ _ _))
      have b1n := b1.setOther (show ¬ w.heap.size = w.heap.size + 1 by omega) i (.int .u8 (by8 (n : Int) i))
      have cn := c0.setNew (show w.heap.size ≤ w.heap.size + 1 by omega) i (.int .u8 (by8 (n : Int) i))
      clear b1 b2 c0
      go_wp2_with fail
      exact ⟨⟨i + 1, by omega, by go_num, b1n, b2n, cn⟩, by simp [intOf]; omega⟩
    · have h9 : i = 8 := by omega
      subst h9
      rw [b32_fe (n : Int) (bx (n : Int) 8) (fun j hj => by unfold bx; split; rfl; exact (by8_hi8 n j hn (by omega)).symm)] at b2
      go_wp2_with (first | (refine wpList_load_row rfl 24 _ rfl (w.heap.size + 1) rfl 24 _ (0, 0) _ b2 Tryz.underlying24 rfl feInfo ?_) | (refine wpList_store_row rfl 24 _ _ rfl w.heap.size _ rfl rfl 24 _ b1 feInfo rfl (feC_one _) ?_))
      exact bodyPost_ret (results_cell_row Tryz.results37 _ _ w.heap.size 24 (feC (n : Int)) (0, 0) _ rfl (Blk.setRow b1 _) Tryz.underlying24 rfl feInfo) rfl ⟨rfl, c0.setRowNew (Nat.le_refl _) _⟩
set_option maxHeartbeats 4000000 in
set_option maxRecDepth 100000 in
theorem Place_r (d : Int) (hd : 0 ≤ d ∧ d < 9223372036854775808) (w : World) : Calls Tryz.prog 13 #[.int .i64 d] w fun e w' => e = .returned (fe d) ∧ Chg w w' [] := by
  have F0 : Blk (w.alloc (.cells z32 24)) w.heap.size z32 24 := Blk.new w z32 24
  have hc : Chg w (w.alloc (.cells z32 24)) [] := (Chg.refl w []).alloc _
  have e1 : IntKind.u64.wrap d = d := by rw [IntKind.wrap_u64]; omega
  obtain ⟨n, rfl⟩ := Int.eq_ofNat_of_zero_le hd.1
  have hn : n < 18446744073709551616 := by omega
  clear hd
  go_enter Tryz.func13, Tryz.ntmps13
  go_wp2_with fail
  refine (FromInt_q n hn _).mono ?_
  rintro e v1 ⟨rfl, k⟩
  replace F0 := F0.chg k (by simp)
  replace hc := hc.trans1 k
  go_wp2_with (refine wpList_store_row rfl 24 _ _ rfl w.heap.size _ rfl rfl 24 _ F0 feInfo rfl (feC_one _) ?_)
  exact bodyPost_ret (results_cell_row Tryz.results13 _ _ w.heap.size 24 (feC (n : Int)) (0, 0) _ rfl (Blk.setRow F0 _) Tryz.underlying24 rfl feInfo) rfl ⟨rfl, hc.setRowNew (by omega) _⟩
theorem ev_step (f : Nat → Nat) (x : Int) (q N : Nat) (h : q < N) : ma (ev f x (q + 1) (N - (q + 1))) x ((f q : Nat) : Int) = ev f x q (N - q) := by
  obtain ⟨m, hm⟩ : ∃ m, N - q = m + 1 := ⟨N - q - 1, by omega⟩
  rw [show N - (q + 1) = m by omega, hm]; rfl
theorem z32_ev (f : Nat → Nat) (x : Int) (k : Nat) : z32 = feC (ev f x k 0) := by
  have h : z32 = feC 0 := by kernel_rfl
  exact h
theorem idE_pre {f : Nat → Int} {k N : Nat} {e : Int} (hk : k ≤ N) (h : idE f k = e) (he : ¬ e = 0) (hN : ¬ N = 0) : idR f N = e := by
  unfold idR; rw [if_neg hN, idE_stays f (k := k) (by rw [h]; exact he) N hk, h]
theorem kn_false {f : Nat → Int} {i : Nat} {n : Nat} (hn : f i = (n : Int)) (h : ∀ j, j < i → ¬ f j = f i) : kn f i n = false := by
  unfold kn; rw [List.any_eq_false]; intro j hj; have := h j (List.mem_range.1 hj); rw [hn] at this; simpa using this
theorem kn_true {f : Nat → Int} {i k : Nat} {n : Nat} (hn : f i = (n : Int)) (hk : k < i) (h : f k = f i) : kn f i n = true := by
  unfold kn; rw [List.any_eq_true]; exact ⟨k, List.mem_range.2 hk, by rw [h, hn]; simp⟩
set_option maxHeartbeats 8000000 in
set_option maxRecDepth 100000 in
theorem IDs_r (v : Value) (N : Nat) (f : Nat → Int) (hN : N ≤ 4611686018427387904) (w : World) (hL : Il w v N f) :
    Calls Tryz.prog 9 #[v] w fun e w' => e = .returned (.int .i64 (idR f N)) ∧ Chg w w' [] := by
  obtain ⟨p, cp, rfl, hp⟩ := hL.form
  have HN : Hid (N ≤ 4611686018427387904) := hN
  have HP : Hid (∀ i, i < N → ∃ g o, p = some ⟨g, o, none⟩ ∧ g < w.heap.size ∧ w.cell? ⟨g, o + i, none⟩ = some (.int .i64 (f i))) := hp
  clear hp hL hN
  go_enter Tryz.func9, Tryz.ntmps9
  by_cases hZ : N = 0
  · subst hZ
    go_wp2_with fail
    go_ret
    exact ⟨rfl, Chg.refl w []⟩
  have hz : ¬ (N : Int) = 0 := by omega
  have HZ : Hid (¬ N = 0) := hZ
  clear hZ
  go_wp2_with fail
  go_loopw [3] (fun t wr => ∃ i : Nat, i ≤ N ∧ t = .int .i64 (i : Int) ∧ idE f i = 0 ∧ Chg w wr []) (fun t _ => (N - intOf t).toNat)
  case atStart => exact ⟨0, Nat.zero_le _, rfl, rfl, Chg.refl w []⟩
  case round =>
    obtain ⟨i, hi, rfl, hE, C⟩ := hrel
    by_cases h : i < N
    · have hI : (i : Int) < (N : Int) := by omega
      have hI0 : (0 : Int) ≤ (i : Int) := by omega
      have e1 : IntKind.i64.wrap ((i : Int) + 1) = (i : Int) + 1 := by have := HN.out; rw [IntKind.wrap_i64]; omega
      have HMs : Hid _ := mN N i h
      have HIN : Hid (i + 1 ≤ N) := h
      have HE : Hid (idE f i = 0) := hE
      obtain ⟨g, o, rfl, hg, hc⟩ := HP.out i h
      have HPg : Hid (∀ j, j < N → w.cell? ⟨g, o + j, none⟩ = some (.int .i64 (f j))) := fun j hj => by
        obtain ⟨g', o', e, _, q⟩ := HP.out j hj
        simp only [Option.some.injEq, Addr.mk.injEq, and_true] at e
        obtain ⟨rfl, rfl⟩ := e
        exact q
      have HGw : Hid (g < w.heap.size) := hg
      have hc' := cell_chg hc hg C (by simp)
      clear h hi hE hc hg HP
      by_cases h1 : 1 ≤ f i
      · by_cases h2 : f i ≤ 255
        · obtain ⟨n, hn⟩ := Int.eq_ofNat_of_zero_le (show 0 ≤ f i by omega)
          have HN1 : Hid (f i = (n : Int)) := hn
          have HB : Hid (1 ≤ f i ∧ f i ≤ 255) := ⟨h1, h2⟩
          clear hn
          go_wp2_with fail
          clear h1 h2 hc'
          go_loopw [4] (fun t wr => ∃ k : Nat, k ≤ i ∧ t = .int .i64 (k : Int) ∧ (∀ j, j < k → ¬ f j = f i) ∧ Chg w wr []) (fun t _ => (i - intOf t).toNat)
          case atStart => exact ⟨0, Nat.zero_le _, rfl, fun j hj => by omega, C⟩
          case round =>
            clear C
            obtain ⟨k, hk, rfl, hK, C⟩ := hrel
            by_cases h : k < i
            · have hI3 : (k : Int) < (i : Int) := by omega
              have hI4 : (0 : Int) ≤ (k : Int) := by omega
              have hI5 : (k : Int) < (N : Int) := by omega
              have e2 : IntKind.i64.wrap ((k : Int) + 1) = (k : Int) + 1 := by have := HN.out; have := HIN.out; rw [IntKind.wrap_i64]; omega
              have HMk : Hid _ := mN i k h
              have HKi : Hid (k + 1 ≤ i) := h
              have HK : Hid (wr.cell? ⟨g, o + k, none⟩ = some (.int .i64 (f k))) := cell_chg (HPg.out k (by have := HIN.out; omega)) HGw.out C (by simp)
              have HI : Hid (wr.cell? ⟨g, o + i, none⟩ = some (.int .i64 (f i))) := cell_chg (HPg.out i (by have := HIN.out; omega)) HGw.out C (by simp)
              have HGl : Hid (g < wr.heap.size) := Nat.lt_of_lt_of_le HGw.out C.size
              by_cases hq : f k = f i
              · have HE5 : Hid (idR f N = 5) := idE_pre HIN.out (idE_twice HE.out HB.out HN1.out (kn_true HN1.out HKi.out hq)) (by decide) HZ.out
                clear h hk hK
                go_wp2_with fail
                refine wp_region_held_drew (S := fun w' => Chg wr w' []) (by kernel_rfl) ((Chg.refl wr _).drew) (fun hHeld => ?_)
                refine take_val (v := ?_) 0 (some 31) rfl (by kernel_rfl) (by kernel_rfl) (by kernel_rfl) (fun _ _ _ h => h) rfl rfl (fun w hSw => ?_) hHeld ?_
                rotate_left
                · (go_simp; try with_reducible rfl)
                try simp only [Act.put, List.setIfInBounds_toArray, List.set_cons_zero, List.set_cons_succ]
                refine take_val (v := ?_) 1 (some 32) rfl (by kernel_rfl) (by kernel_rfl) (by kernel_rfl) (fun _ _ _ h => h) rfl rfl (fun w hSw => ?_) hHeld ?_
                rotate_left
                · (go_simp; try with_reducible rfl)
                try simp only [Act.put, List.setIfInBounds_toArray, List.set_cons_zero, List.set_cons_succ]
                refine take_val (v := ?_) 2 (some 33) rfl (by kernel_rfl) (by kernel_rfl) (by kernel_rfl) (fun _ _ _ h => h) rfl rfl (fun w hSw => ?_) hHeld ?_
                rotate_left
                · (go_simp; try with_reducible rfl)
                try simp only [Act.put, List.setIfInBounds_toArray, List.set_cons_zero, List.set_cons_succ]
                refine take_val (v := (.int .i64 (f k))) 3 (some 34) rfl (by kernel_rfl) (by kernel_rfl) (by kernel_rfl) (fun _ _ _ h => h) rfl rfl (fun w hSw => ?_) hHeld ?_
                · have cx := cell_chg HK.out HGl.out hSw (by simp)
                  (go_simp; try with_reducible rfl)
                try simp only [Act.put, List.setIfInBounds_toArray, List.set_cons_zero, List.set_cons_succ]
                refine take_val (v := ?_) 4 (some 35) rfl (by kernel_rfl) (by kernel_rfl) (by kernel_rfl) (fun _ _ _ h => h) rfl rfl (fun w hSw => ?_) hHeld ?_
                rotate_left
                · (go_simp; try with_reducible rfl)
                try simp only [Act.put, List.setIfInBounds_toArray, List.set_cons_zero, List.set_cons_succ]
                refine take_val (v := ?_) 5 (some 36) rfl (by kernel_rfl) (by kernel_rfl) (by kernel_rfl) (fun _ _ _ h => h) rfl rfl (fun w hSw => ?_) hHeld ?_
                rotate_left
                · (go_simp; try with_reducible rfl)
                try simp only [Act.put, List.setIfInBounds_toArray, List.set_cons_zero, List.set_cons_succ]
                refine take_val (v := ?_) 6 (some 37) rfl (by kernel_rfl) (by kernel_rfl) (by kernel_rfl) (fun _ _ _ h => h) rfl rfl (fun w hSw => ?_) hHeld ?_
                rotate_left
                · (go_simp; try with_reducible rfl)
                try simp only [Act.put, List.setIfInBounds_toArray, List.set_cons_zero, List.set_cons_succ]
                refine take_val (v := (.int .i64 (f i))) 7 (some 38) rfl (by kernel_rfl) (by kernel_rfl) (by kernel_rfl) (fun _ _ _ h => h) rfl rfl (fun w hSw => ?_) hHeld ?_
                · have cx := cell_chg HI.out HGl.out hSw (by simp)
                  (go_simp; try with_reducible rfl)
                try simp only [Act.put, List.setIfInBounds_toArray, List.set_cons_zero, List.set_cons_succ]
                refine take_val (v := ?_) 8 (some 39) rfl (by kernel_rfl) (by kernel_rfl) (by kernel_rfl) (fun _ _ _ h => h) rfl rfl (fun w hSw => ?_) hHeld ?_
                rotate_left
                · (go_simp; try with_reducible rfl)
                try simp only [Act.put, List.setIfInBounds_toArray, List.set_cons_zero, List.set_cons_succ]
                refine wpAnyH_done (by kernel_rfl) ?_ _
                replace C := C.trans1 hHeld
                clear hHeld
                go_wp2_with fail
                go_ret
                exact ⟨by rw [HE5.out]; rfl, C⟩
              · have HNk : Hid (∀ j, j < k + 1 → ¬ f j = f i) := fun j hj => by
                  by_cases h9 : j = k
                  · rw [h9]; exact hq
                  · exact hK j (by omega)
                clear h hk hK
                go_wp2_with fail
                refine wp_region_held_drew (S := fun w' => Chg wr w' []) (by kernel_rfl) ((Chg.refl wr _).drew) (fun hHeld => ?_)
                refine take_val (v := ?_) 0 (some 31) rfl (by kernel_rfl) (by kernel_rfl) (by kernel_rfl) (fun _ _ _ h => h) rfl rfl (fun w hSw => ?_) hHeld ?_
                rotate_left
                · (go_simp; try with_reducible rfl)
                try simp only [Act.put, List.setIfInBounds_toArray, List.set_cons_zero, List.set_cons_succ]
                refine take_val (v := ?_) 1 (some 32) rfl (by kernel_rfl) (by kernel_rfl) (by kernel_rfl) (fun _ _ _ h => h) rfl rfl (fun w hSw => ?_) hHeld ?_
                rotate_left
                · (go_simp; try with_reducible rfl)
                try simp only [Act.put, List.setIfInBounds_toArray, List.set_cons_zero, List.set_cons_succ]
                refine take_val (v := ?_) 2 (some 33) rfl (by kernel_rfl) (by kernel_rfl) (by kernel_rfl) (fun _ _ _ h => h) rfl rfl (fun w hSw => ?_) hHeld ?_
                rotate_left
                · (go_simp; try with_reducible rfl)
                try simp only [Act.put, List.setIfInBounds_toArray, List.set_cons_zero, List.set_cons_succ]
                refine take_val (v := (.int .i64 (f k))) 3 (some 34) rfl (by kernel_rfl) (by kernel_rfl) (by kernel_rfl) (fun _ _ _ h => h) rfl rfl (fun w hSw => ?_) hHeld ?_
                · have cx := cell_chg HK.out HGl.out hSw (by simp)
                  (go_simp; try with_reducible rfl)
                try simp only [Act.put, List.setIfInBounds_toArray, List.set_cons_zero, List.set_cons_succ]
                refine take_val (v := ?_) 4 (some 35) rfl (by kernel_rfl) (by kernel_rfl) (by kernel_rfl) (fun _ _ _ h => h) rfl rfl (fun w hSw => ?_) hHeld ?_
                rotate_left
                · (go_simp; try with_reducible rfl)
                try simp only [Act.put, List.setIfInBounds_toArray, List.set_cons_zero, List.set_cons_succ]
                refine take_val (v := ?_) 5 (some 36) rfl (by kernel_rfl) (by kernel_rfl) (by kernel_rfl) (fun _ _ _ h => h) rfl rfl (fun w hSw => ?_) hHeld ?_
                rotate_left
                · (go_simp; try with_reducible rfl)
                try simp only [Act.put, List.setIfInBounds_toArray, List.set_cons_zero, List.set_cons_succ]
                refine take_val (v := ?_) 6 (some 37) rfl (by kernel_rfl) (by kernel_rfl) (by kernel_rfl) (fun _ _ _ h => h) rfl rfl (fun w hSw => ?_) hHeld ?_
                rotate_left
                · (go_simp; try with_reducible rfl)
                try simp only [Act.put, List.setIfInBounds_toArray, List.set_cons_zero, List.set_cons_succ]
                refine take_val (v := (.int .i64 (f i))) 7 (some 38) rfl (by kernel_rfl) (by kernel_rfl) (by kernel_rfl) (fun _ _ _ h => h) rfl rfl (fun w hSw => ?_) hHeld ?_
                · have cx := cell_chg HI.out HGl.out hSw (by simp)
                  (go_simp; try with_reducible rfl)
                try simp only [Act.put, List.setIfInBounds_toArray, List.set_cons_zero, List.set_cons_succ]
                refine take_val (v := ?_) 8 (some 39) rfl (by kernel_rfl) (by kernel_rfl) (by kernel_rfl) (fun _ _ _ h => h) rfl rfl (fun w hSw => ?_) hHeld ?_
                rotate_left
                · (go_simp; try with_reducible rfl)
                try simp only [Act.put, List.setIfInBounds_toArray, List.set_cons_zero, List.set_cons_succ]
                refine wpAnyH_done (by kernel_rfl) ?_ _
                replace C := C.trans1 hHeld
                clear hHeld
                go_wp2_with fail
                go_roundw
                case rel => exact ⟨k + 1, HKi.out, by go_num, HNk.out, C⟩
                case measure => exact HMk.out
            · obtain rfl : k = i := by omega
              have hI3 : ¬ (k : Int) < (k : Int) := by omega
              have HE0 : Hid (idE f (k + 1) = 0) := idE_ok HE.out HB.out HN1.out (kn_false HN1.out hK)
              clear h hk hK
              go_wp2_with fail
              exact ⟨⟨k + 1, HIN.out, by omega, HE0.out⟩, by have := HMs.out; omega⟩
        · have HE4 : Hid (idR f N = 4) := idE_pre HIN.out (idE_bad HE.out (fun h => h2 h.2)) (by decide) HZ.out
          go_wp2_with fail
          go_ret
          exact ⟨by rw [HE4.out]; rfl, C⟩
      · have HE4 : Hid (idR f N = 4) := idE_pre HIN.out (idE_bad HE.out (fun h => h1 h.1)) (by decide) HZ.out
        go_wp2_with fail
        go_ret
        exact ⟨by rw [HE4.out]; rfl, C⟩
    · obtain rfl : i = N := by omega
      have hI : ¬ (i : Int) < (i : Int) := by omega
      go_wp2_with fail
      go_ret
      exact ⟨by unfold idR; rw [if_neg HZ.out, hE]; rfl, C⟩
end Go.Proofs.YtcagkcglmcafgaaGreat

/- A list's identifiers; rimeref07.Place of any int. -/
set_option linter.unusedVariables false
set_option linter.unusedSimpArgs false
set_option linter.unnecessarySimpa false
namespace Go.Proofs.YtcagkcglmcafgaaGreat
open Go.RowKit N

/-- An int as the number that its 64 bits are. -/
def wu (d : Int) : Int := IntKind.u64.wrap d
theorem wu_nat (d : Int) : ∃ n : Nat, wu d = (n : Int) ∧ n < 18446744073709551616 := by
  unfold wu
  rw [IntKind.wrap_u64]
  refine ⟨(d % 18446744073709551616).toNat, by omega, by omega⟩
theorem wu_r (d : Int) : R256 (wu d) := by
  obtain ⟨n, e, h⟩ := wu_nat d
  rw [e]
  exact ⟨by omega, by omega⟩
theorem wu_id {d : Int} (h : 1 ≤ d ∧ d ≤ 255) : wu d = d := by unfold wu; rw [IntKind.wrap_u64]; omega
set_option maxHeartbeats 4000000 in
set_option maxRecDepth 100000 in
theorem Place_w (d : Int) (w : World) : Calls Tryz.prog 13 #[.int .i64 d] w fun e w' => e = .returned (fe (wu d)) ∧ Chg w w' [] := by
  have F0 : Blk (w.alloc (.cells z32 24)) w.heap.size z32 24 := Blk.new w z32 24
  have hc : Chg w (w.alloc (.cells z32 24)) [] := (Chg.refl w []).alloc _
  obtain ⟨n, hw, hn⟩ := wu_nat d
  have e1 : IntKind.u64.wrap d = (n : Int) := hw
  rw [hw]
  clear hw
  go_enter Tryz.func13, Tryz.ntmps13
  go_wp2_with fail
  refine (FromInt_q n hn _).mono ?_
  rintro e v1 ⟨rfl, k⟩
  replace F0 := F0.chg k (by simp)
  replace hc := hc.trans1 k
  go_wp2_with (refine wpList_store_row rfl 24 _ _ rfl w.heap.size _ rfl rfl 24 _ F0 feInfo rfl (feC_one _) ?_)
  exact bodyPost_ret (results_cell_row Tryz.results13 _ _ w.heap.size 24 (feC (n : Int)) (0, 0) _ rfl (Blk.setRow F0 _) Tryz.underlying24 rfl feInfo) rfl ⟨rfl, hc.setRowNew (by omega) _⟩
theorem ownsRow_blkS {w : World} {base : Nat} {T : TypeId} {s : Nat} {v : Value} {n : Nat} {xs : List Value} (h : w.ownsRow base T s v n xs) {k : Nat} (hk : k ∈ ob v) : ∃ C, Blk w k C T := by
  rcases h.2 with ⟨rfl, _⟩ | ⟨g, cap, cur, rfl, hb, hg, _⟩
  · simp [ob, Value.ownBlock] at hk
  · simp [ob, Value.ownBlock] at hk
    subst hk
    exact ⟨cur, hg⟩
theorem blk_ty {w : World} {k : Nat} {C D : Array Value} {T U : TypeId} (h : Blk w k C T) (g : Blk w k D U) : T = U := by
  unfold Blk at h g
  rw [h] at g
  simp at g
  exact g.2
/-- The identifiers so far. -/
def idL (d : Nat → Int) (k : Nat) : List Int := (List.range k).map d
theorem idL_len (d : Nat → Int) (k : Nat) : (idL d k).length = k := by simp [idL]
theorem idL_s (d : Nat → Int) (k : Nat) : idL d (k + 1) = idL d k ++ [d k] := by simp [idL, List.range_succ]
theorem Oi.il {w : World} {base : Nat} {v : Value} {d : Nat → Int} {N : Nat} (h : Oi w base v (idL d N)) : Il w v N d := by
  have q := OwnR.rl h
  rw [idL_len] at q
  rcases q.2 with h2 | ⟨g, o, cap, e, h1, h2, h3, h4⟩
  · exact Or.inl h2
  · refine Or.inr ⟨g, o, cap, e, h1, h2, h3, fun i hi => ?_⟩
    have := h4 i hi 0 (.int .i64 (d i)) (by unfold oI idL; simp [List.getD_eq_getElem?_getD, hi])
    rwa [Nat.mul_one, Nat.add_zero] at this
theorem id_form {w : World} {base : Nat} {v : Value} {d : Nat → Int} {N : Nat} (h : Oi w base v (idL d N)) : ∃ p c, v = .slice p N c := by
  obtain ⟨p, c, e⟩ := h.form
  rw [idL_len] at e
  exact ⟨p, c, e⟩
end Go.Proofs.YtcagkcglmcafgaaGreat
