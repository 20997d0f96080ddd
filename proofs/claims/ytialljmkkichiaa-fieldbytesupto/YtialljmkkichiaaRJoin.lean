/- rimeref01: Reduce of up to 64 bytes, Join. -/
import Derived.Test.YtialljmkkichiaaRLimM
import Derived.Test.YtialljmkkichiaaRFun
import Derived.Laws.Bits64b
set_option linter.unusedVariables false
set_option linter.unusedSimpArgs false
set_option linter.unnecessarySimpa false
namespace Go.Proofs.Ytialljmkkichiaa
open Go.RowKit N

theorem mkB40 (w : World) : (Instr.makeSlice 22 (.int .i64 40) (.int .i64 40)).run Try.prog w = .ok (.slice (some ⟨w.heap.size, 0, none⟩) 40 40) (w.alloc (.cells (bC 40 fun _ => 0) 5)) := by kernel_rfl
theorem Bs.ofBC {w : World} {g n : Nat} {f : Nat → Nat} {T : TypeId} (h : Blk w g (bC n f) T) (hf : ∀ i, i < n → f i < 256) : Bs w g 0 n f := ⟨h.lt, hf, fun i hi => by rw [h.cell, Nat.zero_add]; exact bC_get n f i hi⟩

set_option maxHeartbeats 4000000 in
set_option maxRecDepth 100000 in
theorem Reduce_rs (g o n cap : Nat) (b : Nat → Nat) (hn : n ≤ 64) (w : World) (hB : Bs w g o n b) :
    Calls Try.prog 14 #[.slice (some ⟨g, o, none⟩) n cap] w fun e w' => e = .returned (fe ((nb b 0 n % PM : Nat) : Int)) ∧ Chg w w' [] := by
  have hbd := hB.bd
  have B0 := Blk.new w z32 24
  have C0 := (Chg.refl w []).alloc (.cells z32 24)
  replace hB := hB.alloc (.cells z32 24)
  obtain ⟨m, hm⟩ : ∃ m, m = nb b 0 n % PM := ⟨_, rfl⟩
  rw [← hm]
  go_enter Try.func14, Try.ntmps14
  go_wp2_with fail
  refine (digits_r g o n cap b (by omega) _ hB).mono ?_
  rintro e v1 ⟨h, rfl, hh, bh, k⟩
  replace B0 := B0.chg k (by simp)
  replace C0 := C0.trans1 k
  clear k hB
  go_wp2_with fail
  refine (mod_r h 0 ((n + 1) / 2) ((n + 1) / 2) (dfk b n) (by omega) (fun i _ => Nat.lt_trans (dfk_lt b n n i (Nat.le_refl _) hbd) (by decide)) _ (Us.of bh)).mono ?_
  rintro e v2 ⟨rfl, k⟩
  rw [nv_digits b n, ← hm]
  replace B0 := B0.chg k (by simp)
  replace C0 := C0.trans1 k
  clear k bh
  clear hm
  go_wp2_with fail
  refine (Back_r m _).mono ?_
  rintro e v3 ⟨rfl, k⟩
  replace B0 := B0.chg k (by simp)
  replace C0 := C0.trans1 k
  clear k
  go_wp2_with (refine wpList_store_row rfl 24 _ _ rfl w.heap.size _ rfl rfl 24 _ B0 feInfo rfl (feC_one _) ?_)
  exact bodyPost_ret (results_cell_row Try.results14 _ _ w.heap.size 24 (feC ((m : Nat) : Int)) (0, 0) _ rfl (Blk.setRow B0 _) Try.underlying24 rfl feInfo) rfl ⟨rfl, C0.setRowNew (Nat.le_refl _) _⟩

/-- The sum of i limbs. -/
def tv (l : Nat → Nat) : Nat → Nat
  | 0 => 0
  | i + 1 => tv l i + l i * 2 ^ (51 * i)
def tvm (l : Nat → Nat) (i : Nat) : Nat := tv l i % PM
theorem tvm_zero (l : Nat → Nat) : tvm l 0 = 0 := by unfold tvm tv; exact Nat.zero_mod _
theorem and_one64 (x : Nat) (hx : x < 18446744073709551616) : bits .and .u64 ((x : Nat) : Int) 1 = ((x % 2 : Nat) : Int) := by
  have h := bits_and_u64_nat x 1 hx (by decide)
  rw [nat_mask1] at h
  exact h
theorem r256_rd (n : Nat) : R256 (((n % PM : Nat) : Int)) := by
  have h : n % PM < PM := Nat.mod_lt _ (by unfold PM; decide)
  generalize n % PM = q at *
  unfold PM at h
  unfold R256
  omega
theorem tv_add (A B : Nat) : (((A % PM : Nat) : Int) + ((B % PM : Nat) : Int)) % P = (((A + B) % PM : Nat) : Int) := by
  rw [Int.natCast_emod, Int.natCast_emod, Int.natCast_emod, Int.natCast_add, PM_eq, ← Int.add_emod]
theorem limb_lt (x i : Nat) (hx : x < 18446744073709551616) (hi : i < 5) : x * 2 ^ (51 * i) < 256 ^ 40 := by
  have h1 : 2 ^ (51 * i) ≤ 2 ^ 204 := Nat.pow_le_pow_right (by decide) (by omega)
  have h2 : x * 2 ^ (51 * i) ≤ 18446744073709551616 * 2 ^ 204 := Nat.mul_le_mul (by omega) h1
  exact Nat.lt_of_le_of_lt h2 (by decide)

set_option maxHeartbeats 4000000 in
set_option maxRecDepth 100000 in
theorem Join_r (l : Nat → Nat) (hl : ∀ i, i < 5 → l i < 18446744073709551616) (w : World) :
    Calls Try.prog 60 #[.agg (uC 5 l)] w fun e w' => e = .returned (fe ((tvm l 5 : Nat) : Int)) ∧ Chg w w' [] := by
  have hmk := mkB40
  have A3 : Blk ((((w.alloc (.cells (uC 5 l) 71)).alloc (.cells z32 24)).alloc (.cells (bC 40 fun _ => 0) 5)).alloc (.cells z32 24)) (w.heap.size + 1 + 1 + 1) z32 24 := by have h := Blk.new (((w.alloc (.cells (uC 5 l) 71)).alloc (.cells z32 24)).alloc (.cells (bC 40 fun _ => 0) 5)) z32 24; simpa using h
  have B0 : Blk (((((w.alloc (.cells (uC 5 l) 71)).alloc (.cells z32 24)).alloc (.cells (bC 40 fun _ => 0) 5)).alloc (.cells z32 24)).setRow (w.heap.size + 1 + 1 + 1) (feC 0)) w.heap.size (uC 5 l) 71 := ((((Blk.new w (uC 5 l) 71).alloc _).alloc _).alloc _).setRowOther (by omega) _
  have B1 : Blk (((((w.alloc (.cells (uC 5 l) 71)).alloc (.cells z32 24)).alloc (.cells (bC 40 fun _ => 0) 5)).alloc (.cells z32 24)).setRow (w.heap.size + 1 + 1 + 1) (feC 0)) (w.heap.size + 1) z32 24 := Blk.setRowOther (by have h := ((Blk.new (w.alloc (.cells (uC 5 l) 71)) z32 24).alloc (.cells (bC 40 fun _ => 0) 5)).alloc (.cells z32 24); simpa using h) (by omega) _
  have B2 : Blk (((((w.alloc (.cells (uC 5 l) 71)).alloc (.cells z32 24)).alloc (.cells (bC 40 fun _ => 0) 5)).alloc (.cells z32 24)).setRow (w.heap.size + 1 + 1 + 1) (feC 0)) (w.heap.size + 1 + 1) (bC 40 fun _ => 0) 5 := Blk.setRowOther (by have h := (Blk.new ((w.alloc (.cells (uC 5 l) 71)).alloc (.cells z32 24)) (bC 40 fun _ => 0) 5).alloc (.cells z32 24); simpa using h) (by omega) _
  have B3 : Blk (((((w.alloc (.cells (uC 5 l) 71)).alloc (.cells z32 24)).alloc (.cells (bC 40 fun _ => 0) 5)).alloc (.cells z32 24)).setRow (w.heap.size + 1 + 1 + 1) (feC 0)) (w.heap.size + 1 + 1 + 1) (feC ((tvm l 0 : Nat) : Int)) 24 := by rw [tvm_zero]; exact A3.setRow _
  have C0 : Chg w (((((w.alloc (.cells (uC 5 l) 71)).alloc (.cells z32 24)).alloc (.cells (bC 40 fun _ => 0) 5)).alloc (.cells z32 24)).setRow (w.heap.size + 1 + 1 + 1) (feC 0)) [] := (((((Chg.refl w []).alloc _).alloc _).alloc _).alloc _).setRowNew (by omega) _
  go_enter Try.func60, Try.ntmps60
  go_wp2_with (first | (refine wpList_build_fe rfl 24 #[] rfl (feC 0) (by kernel_rfl) ?_) | (refine wpList_store_row rfl 24 _ _ rfl (w.heap.size + 1 + 1 + 1) _ rfl rfl 24 _ A3 feInfo rfl (feC_one _) ?_))
  clear hmk A3
  go_loopw [5] (fun t wr => ∃ (i : Nat) (f : Nat → Nat), i ≤ 5 ∧ t = .int .i64 (i : Int) ∧ Blk wr w.heap.size (uC 5 l) 71 ∧ Blk wr (w.heap.size + 1) z32 24 ∧ Blk wr (w.heap.size + 1 + 1) (bC 40 f) 5 ∧ Blk wr (w.heap.size + 1 + 1 + 1) (feC ((tvm l i : Nat) : Int)) 24 ∧ Chg w wr []) (fun t _ => (5 - intOf t).toNat)
  case atStart => exact ⟨0, fun _ => 0, by omega, rfl, B0, B1, B2, B3, C0⟩
  case round =>
    obtain ⟨i, f, hi, rfl, b0, b1, b2, b3, c0⟩ := hrel
    clear B0 B1 B2 B3 C0
    by_cases hi5 : i < 5
    · have hI : (i : Int) < 5 := by omega
      have hli := hl i hi5
      obtain ⟨X, hX⟩ : ∃ X, X = l i * 2 ^ (51 * i) := ⟨_, rfl⟩
      obtain ⟨Rn, hRn⟩ : ∃ R, R = X % PM := ⟨_, rfl⟩
      obtain ⟨A, hA⟩ : ∃ A, A = tvm l i := ⟨_, rfl⟩
      obtain ⟨A2, hA2'⟩ : ∃ A, A = tvm l (i + 1) := ⟨_, rfl⟩
      have hA2 : Hid (A2 = tvm l (i + 1)) := hA2'
      have rT : R256 ((A : Nat) : Int) := by rw [hA]; exact r256_rd _
      have rR : R256 ((Rn : Nat) : Int) := by rw [hRn]; exact r256_rd _
      have hadd : Hid ((((A : Nat) : Int) + ((Rn : Nat) : Int)) % P = ((A2 : Nat) : Int)) := by
        show (((A : Nat) : Int) + ((Rn : Nat) : Int)) % P = ((A2 : Nat) : Int)
        rw [hA, hRn, hX, hA2']
        exact tv_add (tv l i) (l i * 2 ^ (51 * i))
      have hred : Hid (nb (bf X) 0 40 % PM = Rn) := by
        show nb (bf X) 0 40 % PM = Rn
        have hx40 : X < 256 ^ 40 := by rw [hX]; exact limb_lt (l i) i hli hi5
        rw [nb_bf, Nat.pow_zero, Nat.div_one, Nat.mod_eq_of_lt hx40, hRn]
      have hlx : Hid (lowb (l i) (51 * i) 64 = X) := (lowb_all (l i) (51 * i) hli).trans hX.symm
      rw [← hA] at b3
      clear hX hRn hA hA2'
      go_wp2_with fail
      go_loopw [6] (fun t wr => ∃ (k : Nat) (f : Nat → Nat), k ≤ 40 ∧ t = .int .i64 (k : Int) ∧ (∀ j, j < k → f j = 0) ∧ Blk wr w.heap.size (uC 5 l) 71 ∧ Blk wr (w.heap.size + 1) z32 24 ∧ Blk wr (w.heap.size + 1 + 1) (bC 40 f) 5 ∧ Blk wr (w.heap.size + 1 + 1 + 1) (feC ((A : Nat) : Int)) 24 ∧ Chg w wr []) (fun t _ => (40 - intOf t).toNat)
      case atStart => exact ⟨0, f, by omega, rfl, fun j hj => absurd hj (by omega), b0, b1, b2, b3, c0⟩
      case round =>
        obtain ⟨k, f, hk, rfl, hf, b0, b1, b2, b3, c0⟩ := hrel
        by_cases hk40 : k < 40
        · have hK : (k : Int) < 40 := by omega
          have cl := (b2.cell k).trans (bC_get 40 f k hk40)
          have fl := b2.frozen k
          have hfn : Hid (∀ j, j < k + 1 → upd f k 0 j = 0) := fun j hj => by
            by_cases e : j = k
            · subst e; exact upd_same _ _ _
            · rw [upd_other _ _ _ _ e]; exact hf j (by omega)
          have b2n : Blk (wr.setCell ⟨(w.heap.size + 1 + 1), k, none⟩ (.int .u8 0)) (w.heap.size + 1 + 1) (bC 40 (upd f k 0)) 5 := (b2.setCell k _).to (bC_set 40 f k 0)
          have b0n := b0.setOther (show ¬ w.heap.size = (w.heap.size + 1 + 1) by omega) k (.int .u8 0)
          have b1n := b1.setOther (show ¬ (w.heap.size + 1) = (w.heap.size + 1 + 1) by omega) k (.int .u8 0)
          have b3n := b3.setOther (show ¬ (w.heap.size + 1 + 1 + 1) = (w.heap.size + 1 + 1) by omega) k (.int .u8 0)
          have cn := c0.new (Chg.of (gb_set (gb_refl wr _) k (.int .u8 0))) (show w.heap.size ≤ (w.heap.size + 1 + 1) by omega)
          clear b0 b1 b2 b3 c0 hf
          go_wp2_with fail
          go_roundw
          case rel => exact ⟨k + 1, upd f k 0, by omega, by go_num, hfn, b0n, b1n, b2n, b3n, cn⟩
          case measure => simp [intOf]; omega
        · have hk2 : k = 40 := by omega
          subst hk2
          replace b2 := b2.to (bC_congr 40 f (bf (lowb (l i) (51 * i) 0)) (fun j hj => by rw [hf j hj, lowb_zero, bf_zero]))
          clear hk hk40 hf
          go_wp2_with fail
          go_loopw [7] (fun t wr => ∃ k : Nat, k ≤ 64 ∧ t = .int .i64 (k : Int) ∧ Blk wr w.heap.size (uC 5 l) 71 ∧ Blk wr (w.heap.size + 1) z32 24 ∧ Blk wr (w.heap.size + 1 + 1) (bC 40 (bf (lowb (l i) (51 * i) k))) 5 ∧ Blk wr (w.heap.size + 1 + 1 + 1) (feC ((A : Nat) : Int)) 24 ∧ Chg w wr []) (fun t _ => (64 - intOf t).toNat)
          case atStart => exact ⟨0, by omega, rfl, b0, b1, b2, b3, c0⟩
          case round =>
          obtain ⟨k, hk, rfl, b0, b1, b2, b3, c0⟩ := hrel
          by_cases hk64 : k < 64
          · have hK : (k : Int) < 64 := by omega
            have hstep := lowb_step (l i) (51 * i) k
            have hlow := lowb_lt (l i) (51 * i) k
            obtain ⟨z, hz⟩ : ∃ z, z = l i / 2 ^ k := ⟨_, rfl⟩
            have hz64 : z < 18446744073709551616 := Nat.lt_of_le_of_lt (by rw [hz]; exact Nat.div_le_self _ _) hli
            have h1 : ((l i : Nat) : Int) / 2 ^ k = ((z : Nat) : Int) := by rw [hz, Int.natCast_ediv, Int.natCast_pow]; rfl
            rw [← hz] at hstep
            have cL := (b0.cell i).trans (uC_get 5 l i hi5)
            have h3 := and_one64 z hz64
            rcases Nat.mod_two_eq_zero_or_one z with hb | hb
            · rw [hb, Nat.zero_mul] at hstep
              rw [hb] at h3
              have b2n : Blk wr (w.heap.size + 1 + 1) (bC 40 (bf (lowb (l i) (51 * i) (k + 1)))) 5 := by rw [hstep]; exact b2
              clear b2
              clear hstep hlow hz hb
              go_wp2_with fail
              go_roundw
              case rel => exact ⟨k + 1, by omega, by go_num, b0, b1, b2n, b3, c0⟩
              case measure => simp [intOf]; omega
            · rw [hb, Nat.one_mul] at hstep
              rw [hb] at h3
              obtain ⟨t, ht⟩ : ∃ t, t = 51 * i + k := ⟨_, rfl⟩
              obtain ⟨q, hq⟩ : ∃ q, q = t / 8 := ⟨_, rfl⟩
              obtain ⟨s, hs⟩ : ∃ s, s = t % 8 := ⟨_, rfl⟩
              have et : t = 8 * q + s := by omega
              have hs8 : s < 8 := by omega
              have q1 : (51 * (i : Int) + (k : Int)) / 8 = (q : Int) := by omega
              have q2 : (51 * (i : Int) + (k : Int)) % 8 = (s : Int) := by omega
              have q3 : (q : Int) < 40 := by omega
              have q4 : (s : Int) < 8 := by omega
              rw [← ht, et] at hstep hlow
              obtain ⟨Nk, hNk⟩ : ∃ m, m = lowb (l i) (51 * i) k := ⟨_, rfl⟩
              rw [← hNk] at hstep hlow b2
              obtain ⟨y, hy⟩ : ∃ y, y = bf Nk q := ⟨_, rfl⟩
              have hbb := fun j => (bf_bit Nk q s j hs8 hlow).1
              have hyl := (bf_bit Nk q s q hs8 hlow).2
              obtain ⟨S, hS⟩ : ∃ S, S = 2 ^ s := ⟨_, rfl⟩
              have hS128 : S ≤ 128 := by rw [hS]; exact Nat.le_trans (Nat.pow_le_pow_right (by decide) (show s ≤ 7 by omega)) (by decide)
              have h4 : IntKind.u8.wrap ((2 : Int) ^ s) = ((S : Nat) : Int) := by
                have e : (2 : Int) ^ s = ((S : Nat) : Int) := by rw [hS, Int.natCast_pow]; rfl
                rw [e, IntKind.wrap_u8']
                omega
              have h5 : bits .or .u8 ((y : Nat) : Int) ((S : Nat) : Int) = ((y + S : Nat) : Int) := by rw [hS]; exact or_byte y s hs8 (by rw [hy]; exact hyl)
              obtain ⟨Y, hY⟩ : ∃ Y, Y = y + S := ⟨_, rfl⟩
              rw [← hY] at h5
              have cB : wr.cell? ⟨(w.heap.size + 1 + 1), q, none⟩ = some (.int .u8 ((y : Nat) : Int)) := by rw [b2.cell, bC_get 40 _ q (by omega), hy]
              have fB := b2.frozen q
              have b2n : Blk (wr.setCell ⟨(w.heap.size + 1 + 1), q, none⟩ (.int .u8 ((Y : Nat) : Int))) (w.heap.size + 1 + 1) (bC 40 (bf (lowb (l i) (51 * i) (k + 1)))) 5 := (b2.setCell q _).to (by
                rw [bC_set, hstep]
                refine bC_congr 40 _ _ (fun j _ => ?_)
                rw [hbb j]
                by_cases e : j = q
                · subst e; rw [upd_same, if_pos rfl, hY, hy, hS]
                · rw [upd_other _ _ _ _ e, if_neg e])
              have b0n := b0.setOther (show ¬ w.heap.size = (w.heap.size + 1 + 1) by omega) q (.int .u8 ((Y : Nat) : Int))
              have b1n := b1.setOther (show ¬ (w.heap.size + 1) = (w.heap.size + 1 + 1) by omega) q (.int .u8 ((Y : Nat) : Int))
              have b3n := b3.setOther (show ¬ (w.heap.size + 1 + 1 + 1) = (w.heap.size + 1 + 1) by omega) q (.int .u8 ((Y : Nat) : Int))
              have cn := c0.new (Chg.of (gb_set (gb_refl wr _) q (.int .u8 ((Y : Nat) : Int)))) (show w.heap.size ≤ (w.heap.size + 1 + 1) by omega)
              clear b0 b1 b2 b3 c0 hstep hlow hz hb ht hq hs et hNk hy hbb hyl hS hY
              go_wp2_with fail
              go_roundw
              case rel => exact ⟨k + 1, by omega, by go_num, b0n, b1n, b2n, b3n, cn⟩
              case measure => simp [intOf]; omega
          have hk2 : k = 64 := by omega
          subst hk2
          rw [hlx.out] at b2
          clear hk hk64
          go_wp2_with fail
          replace b0 := b0.drew
          replace b1 := b1.drew
          replace b2 := b2.drew
          replace b3 := b3.drew
          refine wp_region_held_drew (S := fun w' => Chg w w' []) (by kernel_rfl) (c0.drew) (fun hHeld => ?_)
          refine take_val (v := (.slice (some ⟨(w.heap.size + 1 + 1), 0, none⟩) 40 40)) 1 (some 55) rfl (by kernel_rfl) (by kernel_rfl) (by kernel_rfl) (fun _ _ _ h => h) rfl rfl (fun w hSw => ?_) hHeld ?_
          · (go_simp; try with_reducible rfl)
          try simp only [Act.put, List.setIfInBounds_toArray, List.set_cons_zero, List.set_cons_succ]
          refine wpAnyH_ready (rs := [0, 2]) (by kernel_rfl) (by simp) ?_
          refine AllReadyH.cons (o := _) rfl (fun K hK => ?_) ?_
          ·
            rw [if_pos (by rfl)]
            refine wp_load_row 24 _ rfl (w.heap.size + 1 + 1 + 1) rfl 24 _ (0, 0) _ b3 Try.underlying24 rfl feInfo ?_
            refine hK.out _ _ (hHeld) (fun hHeld => ?_)
            clear hK K
            try simp only [Act.put, List.setIfInBounds_toArray, List.set_cons_zero, List.set_cons_succ]
            refine wpAnyH_ready (rs := [2]) (by kernel_rfl) (by simp) ?_
            refine AllReadyH.cons (o := _) rfl (fun K hK => ?_) ?_
            ·
              go_simp
              refine (Reduce_rs (w.heap.size + 1 + 1) 0 40 40 (bf X) (by decide) _ (Bs.ofBC b2 (fun j _ => bf_lt _ j))).mono ?_
              rintro e x2 ⟨rfl, k⟩
              rw [hred.out]
              replace b0 := b0.chg k (by simp)
              replace b1 := b1.chg k (by simp)
              replace b2 := b2.chg k (by simp)
              replace b3 := b3.chg k (by simp)
              go_wp2_with fail
              refine hK.out _ _ (hHeld.trans1 k) (fun hHeld => ?_)
              clear hK K
              try simp only [Act.put, List.setIfInBounds_toArray, List.set_cons_zero, List.set_cons_succ]
              refine wpAnyH_ready (rs := [3]) (by kernel_rfl) (by simp) ?_
              refine AllReadyH.cons (o := _) rfl (fun K hK => ?_) ?_
              ·
                go_simp
                refine (Add_r _ _ rT rR _).mono ?_
                rintro e x3 ⟨rfl, k⟩
                rw [hadd.out]
                replace b0 := b0.chg k (by simp)
                replace b1 := b1.chg k (by simp)
                replace b2 := b2.chg k (by simp)
                replace b3 := b3.chg k (by simp)
                go_wp2_with fail
                refine hK.out _ _ (hHeld.trans1 k) (fun hHeld => ?_)
                clear hK K
                try simp only [Act.put, List.setIfInBounds_toArray, List.set_cons_zero, List.set_cons_succ]
                refine wpAnyH_ready (rs := [4]) (by kernel_rfl) (by simp) ?_
                refine AllReadyH.cons (o := _) rfl (fun K hK => ?_) ?_
                ·
                  rw [if_pos (by rfl)]
                  refine wp_store_row 24 _ _ rfl (w.heap.size + 1 + 1 + 1) _ rfl rfl 24 _ b3 feInfo rfl (feC_one _) ?_
                  refine hK.out _ _ (hHeld.setRowNew (by omega) _) (fun hHeld => ?_)
                  clear hK K
                  try simp only [Act.put, List.setIfInBounds_toArray, List.set_cons_zero, List.set_cons_succ]
                  refine wpAnyH_done (by kernel_rfl) ?_ _
                  go_wp2_with fail
                  go_roundw
                  case rel => exact ⟨i + 1, bf X, by omega, by go_num, b0.setRowOther (by omega) _, b1.setRowOther (by omega) _, b2.setRowOther (by omega) _, by rw [← hA2.out]; exact b3.setRow _, hHeld⟩
                  case measure => simp [intOf]; omega
                exact AllReadyH.nil
              exact AllReadyH.nil
            exact AllReadyH.nil
          refine AllReadyH.cons (o := _) rfl (fun K hK => ?_) ?_
          ·
            go_simp
            refine (Reduce_rs (w.heap.size + 1 + 1) 0 40 40 (bf X) (by decide) _ (Bs.ofBC b2 (fun j _ => bf_lt _ j))).mono ?_
            rintro e x2 ⟨rfl, k⟩
            rw [hred.out]
            replace b0 := b0.chg k (by simp)
            replace b1 := b1.chg k (by simp)
            replace b2 := b2.chg k (by simp)
            replace b3 := b3.chg k (by simp)
            go_wp2_with fail
            refine hK.out _ _ (hHeld.trans1 k) (fun hHeld => ?_)
            clear hK K
            try simp only [Act.put, List.setIfInBounds_toArray, List.set_cons_zero, List.set_cons_succ]
            refine wpAnyH_ready (rs := [0]) (by kernel_rfl) (by simp) ?_
            refine AllReadyH.cons (o := _) rfl (fun K hK => ?_) ?_
            ·
              rw [if_pos (by rfl)]
              refine wp_load_row 24 _ rfl (w.heap.size + 1 + 1 + 1) rfl 24 _ (0, 0) _ b3 Try.underlying24 rfl feInfo ?_
              refine hK.out _ _ (hHeld) (fun hHeld => ?_)
              clear hK K
              try simp only [Act.put, List.setIfInBounds_toArray, List.set_cons_zero, List.set_cons_succ]
              refine wpAnyH_ready (rs := [3]) (by kernel_rfl) (by simp) ?_
              refine AllReadyH.cons (o := _) rfl (fun K hK => ?_) ?_
              ·
                go_simp
                refine (Add_r _ _ rT rR _).mono ?_
                rintro e x3 ⟨rfl, k⟩
                rw [hadd.out]
                replace b0 := b0.chg k (by simp)
                replace b1 := b1.chg k (by simp)
                replace b2 := b2.chg k (by simp)
                replace b3 := b3.chg k (by simp)
                go_wp2_with fail
                refine hK.out _ _ (hHeld.trans1 k) (fun hHeld => ?_)
                clear hK K
                try simp only [Act.put, List.setIfInBounds_toArray, List.set_cons_zero, List.set_cons_succ]
                refine wpAnyH_ready (rs := [4]) (by kernel_rfl) (by simp) ?_
                refine AllReadyH.cons (o := _) rfl (fun K hK => ?_) ?_
                ·
                  rw [if_pos (by rfl)]
                  refine wp_store_row 24 _ _ rfl (w.heap.size + 1 + 1 + 1) _ rfl rfl 24 _ b3 feInfo rfl (feC_one _) ?_
                  refine hK.out _ _ (hHeld.setRowNew (by omega) _) (fun hHeld => ?_)
                  clear hK K
                  try simp only [Act.put, List.setIfInBounds_toArray, List.set_cons_zero, List.set_cons_succ]
                  refine wpAnyH_done (by kernel_rfl) ?_ _
                  go_wp2_with fail
                  go_roundw
                  case rel => exact ⟨i + 1, bf X, by omega, by go_num, b0.setRowOther (by omega) _, b1.setRowOther (by omega) _, b2.setRowOther (by omega) _, by rw [← hA2.out]; exact b3.setRow _, hHeld⟩
                  case measure => simp [intOf]; omega
                exact AllReadyH.nil
              exact AllReadyH.nil
            exact AllReadyH.nil
          exact AllReadyH.nil
    · have hi2 : i = 5 := by omega
      have hI : ¬ (i : Int) < 5 := by omega
      obtain ⟨A, hA⟩ : ∃ A, A = tvm l i := ⟨_, rfl⟩
      rw [← hA] at b3
      rw [hi2] at hA
      replace hA : Hid (A = tvm l 5) := hA
      clear hi hi5 hi2
      go_wp2_with (first | (refine wpList_load_row rfl 24 _ rfl (w.heap.size + 1 + 1 + 1) rfl 24 _ (0, 0) _ b3 Try.underlying24 rfl feInfo ?_) | (refine wpList_store_row rfl 24 _ _ rfl (w.heap.size + 1) _ rfl rfl 24 _ b1 feInfo rfl (feC_one _) ?_))
      exact bodyPost_ret (results_cell_row Try.results60 _ _ (w.heap.size + 1) 24 (feC ((A : Nat) : Int)) (0, 0) _ rfl (Blk.setRow b1 _) Try.underlying24 rfl feInfo) rfl ⟨by rw [← hA.out], c0.setRowNew (by omega) _⟩
end Go.Proofs.Ytialljmkkichiaa
