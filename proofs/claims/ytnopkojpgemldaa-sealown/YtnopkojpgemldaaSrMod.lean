/- rimeref12.prime, mod. -/
import Derived.Test.YtnopkojpgemldaaSrPl
set_option linter.unusedVariables false
set_option linter.unusedSimpArgs false
set_option linter.unnecessarySimpa false
namespace Go.Proofs.Ytnopkojpgemldaa
open Go.RowKit

/-- Numbers in memory, as many as len, from ⟨g, o⟩ on. -/
structure Us (w : World) (g o len : Nat) (l : Nat → Nat) : Prop where
  lt : g < w.heap.size
  bd : ∀ i, i < len → l i < 4294967296
  cell : ∀ i, i < len → w.cell? ⟨g, o + i, none⟩ = some (.int .u32 ((l i : Nat) : Int))
theorem Us.chg {w w' : World} {g o len : Nat} {l : Nat → Nat} {ch : List Nat} (h : Us w g o len l) (hc : Chg w w' ch) (hb : ¬ g ∈ ch) : Us w' g o len l := by
  refine ⟨Nat.lt_of_lt_of_le h.lt hc.size, h.bd, fun i hi => ?_⟩
  rw [← h.cell i hi]
  simp only [World.cell?, hc.block g h.lt hb]
theorem Us.drew {w : World} {g o len : Nat} {l : Nat → Nat} (h : Us w g o len l) : Us w.drew g o len l := h.chg ((Chg.refl w []).drew) (by simp)
theorem Us.alloc {w : World} {g o len : Nat} {l : Nat → Nat} (h : Us w g o len l) (x : Obj) : Us (w.alloc x) g o len l := h.chg ((Chg.refl w []).alloc x) (by simp)
theorem Us.of {w : World} {g n : Nat} {f : Nat → Nat} {T : TypeId} (h : Blk w g (uC n f) T) (hf : ∀ i, i < n → f i < 4294967296) : Us w g 0 n f := ⟨h.lt, hf, fun i hi => by rw [h.cell, Nat.zero_add]; exact uC_get n f i hi⟩
theorem PP_pos : 0 < PP := by unfold PP; decide
theorem PP_dC : #[.int .u32 4294967291, .int .u32 4294967295, .int .u32 4294967295, .int .u32 4294967295, .int .u32 3] = dC PP := by kernel_rfl
set_option maxHeartbeats 1000000 in
set_option maxRecDepth 100000 in
theorem prime_r (w : World) : Calls Try.prog 96 #[] w fun e w' => e = .returned (.agg (dC PP)) ∧ Chg w w' [] := by
  have B0 := Blk.new w z5u 101
  have C0 := (Chg.refl w []).alloc (.cells z5u 101)
  go_enter Try.func96, Try.ntmps96
  go_wp2_with (first | (refine gl_build (by rfl) 101 _ rfl (dC PP) (by kernel_rfl) ?_) | (refine wpList_store_row rfl 101 _ _ rfl w.heap.size _ rfl rfl 101 _ B0 NumInfo rfl (dC_one _) ?_))
  exact bodyPost_ret (results_cell_row Try.results96 _ _ w.heap.size 101 (dC PP) (0, 0) _ rfl (Blk.setRow B0 _) Try.underlying101 rfl NumInfo) rfl ⟨rfl, C0.setRowNew (Nat.le_refl _) _⟩
theorem bit32 (x k : Nat) (hx : x < 4294967296) : bits .and .u32 ((x : Int) / 2 ^ k) 1 = ((x / 2 ^ k % 2 : Nat) : Int) := by
  have e : (x : Int) / 2 ^ k = ((x / 2 ^ k : Nat) : Int) := by rw [Int.natCast_ediv, Int.natCast_pow]; rfl
  have hl : x / 2 ^ k ≤ x := Nat.div_le_self _ _
  rw [e]
  have h := u32_and_nat (x / 2 ^ k) 1 (by omega) (by omega)
  rw [nat_mask1] at h
  exact h
theorem bit_step32 (E x j : Nat) (hj : j < 32) : E * 2 ^ (32 - j) + x / 2 ^ j = 2 * (E * 2 ^ (32 - (j + 1)) + x / 2 ^ (j + 1)) + x / 2 ^ j % 2 := by
  have e1 : 32 - j = (32 - (j + 1)) + 1 := by omega
  rw [e1, Nat.pow_succ 2 (32 - (j + 1)), Nat.pow_succ 2 j, ← Nat.div_div_eq_div_mul, ← Nat.mul_assoc]
  omega
theorem mod_step (X b : Nat) : (2 * (X % PP) + b) % PP = (2 * X + b) % PP := by
  rw [Nat.add_mod, Nat.mul_mod, Nat.mod_mod, ← Nat.mul_mod, ← Nat.add_mod]
theorem or1 (x c : Nat) (hx : x < 4294967296) (hc : c < 2) : bits .or .u32 (((x : Nat) : Int) * 2 % 4294967296) ((c : Nat) : Int) = ((2 * x % 4294967296 + c : Nat) : Int) := by
  have e : ((x : Nat) : Int) * 2 % 4294967296 = ((2 * x % 4294967296 : Nat) : Int) := by omega
  rw [e, u32_or_nat (2 * x % 4294967296) c (by omega) (by omega), nat_join 1 (2 * x % 4294967296) c (by omega) (by omega)]

set_option maxHeartbeats 4000000 in
set_option maxRecDepth 100000 in
theorem mod_r (g o n cap : Nat) (l : Nat → Nat) (hn : n ≤ 140737488355328) (w : World) (hu : Us w g o n l) :
    Calls Try.prog 93 #[.slice (some ⟨g, o, none⟩) n cap] w fun e w' => e = .returned (.agg (dC (nv l 0 n % PP))) ∧ Chg w w' [] := by
  have hg := hu.lt
  have B0 : Blk ((w.alloc (.cells z5u 101)).alloc (.cells z5u 101)) w.heap.size z5u 101 := (Blk.new w z5u 101).alloc _
  have B1 : Blk ((w.alloc (.cells z5u 101)).alloc (.cells z5u 101)) (w.heap.size + 1) z5u 101 := by have h := Blk.new (w.alloc (.cells z5u 101)) z5u 101; simpa using h
  have C0 : Chg w ((w.alloc (.cells z5u 101)).alloc (.cells z5u 101)) [] := ((Chg.refl w []).alloc _).alloc _
  replace hu := (hu.alloc (.cells z5u 101)).alloc (.cells z5u 101)
  go_enter Try.func93, Try.ntmps93
  go_wp2_with fail
  refine (prime_r _).mono ?_
  rintro e v0 ⟨rfl, k⟩
  replace B0 := B0.chg k (by simp)
  replace B1 := B1.chg k (by simp)
  replace C0 := C0.trans1 k
  replace hu := hu.chg k (by simp)
  have sz := B1.lt
  clear k
  have A := Blk.new v0 z5u 101
  go_wp2_with (refine wpList_store_row rfl 101 _ _ rfl v0.heap.size _ rfl rfl 101 _ A NumInfo rfl (dC_one _) ?_)
  have A' := A.setRow (dC PP)
  have KS : Chg v0 ((v0.alloc (.cells z5u 101)).setRow v0.heap.size (dC PP)) [] := ((Chg.refl v0 []).alloc (.cells z5u 101)).setRowNew (Nat.le_refl _) (dC PP)
  replace B0 := B0.chg KS (by simp)
  replace B1 := B1.chg KS (by simp)
  replace C0 := C0.trans1 KS
  replace hu := hu.chg KS (by simp)
  clear A KS
  generalize hv1 : (v0.alloc (.cells z5u 101)).setRow v0.heap.size (dC PP) = v1 at A' B0 B1 C0 hu
  change Code.wp _ _ _ _ ((v0.alloc (.cells z5u 101)).setRow v0.heap.size (dC PP))
  rw [hv1]
  clear hv1
  generalize v0.heap.size = od at *
  have hor : ¬ od = w.heap.size + 1 := by omega
  have hgr : ¬ g = w.heap.size + 1 := by omega
  rw [z5u_dC] at B1
  go_loopw [5] (fun t wr => ∃ k : Nat, k ≤ n ∧ t = .int .i64 ((k : Int) - 1) ∧ Blk wr (w.heap.size + 1) (dC (nv l k (n - k) % PP)) 101 ∧ Blk wr od (dC PP) 101 ∧ Blk wr w.heap.size z5u 101 ∧ Us wr g o n l ∧ Chg w wr []) (fun t _ => (intOf t + 1).toNat)
  case atStart => exact ⟨n, Nat.le_refl _, rfl, by rw [Nat.sub_self, nv_zero, Nat.zero_mod]; exact B1, A', B0, hu, C0⟩
  case round =>
    obtain ⟨k, hk, rfl, r0, r1, r2, r3, r4⟩ := hrel
    clear B0 B1 C0 hu A'
    by_cases hk0 : k = 0
    · subst hk0
      have hneg : ¬ (0 : Int) ≤ ((0 : Nat) : Int) - 1 := by omega
      rw [Nat.sub_zero] at r0
      go_wp2_with (first | (refine wpList_load_row rfl 101 _ rfl (w.heap.size + 1) rfl 101 _ (0, 0) _ r0 Try.underlying101 rfl NumInfo ?_) | (refine wpList_store_row rfl 101 _ _ rfl w.heap.size _ rfl rfl 101 _ r2 NumInfo rfl (dC_one _) ?_))
      exact bodyPost_ret (results_cell_row Try.results93 _ _ w.heap.size 101 (dC (nv l 0 n % PP)) (0, 0) _ rfl (Blk.setRow r2 _) Try.underlying101 rfl NumInfo) rfl ⟨rfl, r4.setRowNew (Nat.le_refl _) _⟩
    · obtain ⟨i, rfl⟩ : ∃ i, k = i + 1 := ⟨k - 1, by omega⟩
      have e1 : (((i + 1 : Nat) : Int) - 1) = (i : Int) := by omega
      rw [e1]
      clear e1 hk0
      have hin : i < n := by omega
      have hI0 : (0 : Int) ≤ (i : Int) := by omega
      have hIn : (i : Int) < (n : Int) := by omega
      have hx := r3.bd i hin
      have HE : Hid (nv l i (n - i) = nv l (i + 1) (n - (i + 1)) * 2 ^ (32 - 0) + l i / 2 ^ 0) := by
        show nv l i (n - i) = nv l (i + 1) (n - (i + 1)) * 2 ^ (32 - 0) + l i / 2 ^ 0
        rw [show n - i = (n - (i + 1)) + 1 by omega, nv_succ, Nat.pow_zero, Nat.div_one]
        omega
      generalize nv l (i + 1) (n - (i + 1)) = E at *
      go_wp2_with fail
      go_loopw [6] (fun t wr => ∃ j : Nat, j ≤ 32 ∧ t = .int .i64 ((j : Int) - 1) ∧ Blk wr (w.heap.size + 1) (dC ((E * 2 ^ (32 - j) + l i / 2 ^ j) % PP)) 101 ∧ Blk wr od (dC PP) 101 ∧ Blk wr w.heap.size z5u 101 ∧ Us wr g o n l ∧ Chg w wr []) (fun t _ => (intOf t + 1).toNat)
      case atStart => exact ⟨32, by omega, rfl, by rw [Nat.sub_self, Nat.pow_zero, Nat.mul_one, Nat.div_eq_of_lt (by omega), Nat.add_zero]; exact r0, r1, r2, r3, r4⟩
      case round =>
        obtain ⟨j, hj, rfl, s0, s1, s2, s3, s4⟩ := hrel
        clear r0 r1 r2 r3 r4
        by_cases hj0 : j = 0
        · subst hj0
          have hneg : ¬ (0 : Int) ≤ ((0 : Nat) : Int) - 1 := by omega
          go_wp2_with fail
          exact ⟨⟨i, by omega, by go_num, by rw [HE.out]; exact s0, s1, s2, s3, s4⟩, by simp [intOf]⟩
        · obtain ⟨q, rfl⟩ : ∃ q, j = q + 1 := ⟨j - 1, by omega⟩
          have e1 : (((q + 1 : Nat) : Int) - 1) = (q : Int) := by omega
          rw [e1]
          clear e1 hj0
          have hq0 : (0 : Int) ≤ (q : Int) := by omega
          have hst : Hid (E * 2 ^ (32 - q) + l i / 2 ^ q = 2 * (E * 2 ^ (32 - (q + 1)) + l i / 2 ^ (q + 1)) + l i / 2 ^ q % 2) := bit_step32 E (l i) q (by omega)
          have hbit := bit32 (l i) q hx
          obtain ⟨bt, hbt'⟩ : ∃ bt, bt = l i / 2 ^ q % 2 := ⟨_, rfl⟩
          have hbt : bt < 2 := by omega
          rw [← hbt'] at hbit
          have HV : Hid ((2 * ((E * 2 ^ (32 - (q + 1)) + l i / 2 ^ (q + 1)) % PP) + bt) % PP = (E * 2 ^ (32 - q) + l i / 2 ^ q) % PP) := by
            show (2 * ((E * 2 ^ (32 - (q + 1)) + l i / 2 ^ (q + 1)) % PP) + bt) % PP = (E * 2 ^ (32 - q) + l i / 2 ^ q) % PP
            rw [mod_step, hbt', ← hst.out]
          clear hbt' hst
          have hrl := Nat.mod_lt (E * 2 ^ (32 - (q + 1)) + l i / 2 ^ (q + 1)) PP_pos
          generalize (E * 2 ^ (32 - (q + 1)) + l i / 2 ^ (q + 1)) % PP = r at *
          obtain ⟨m, hm⟩ : ∃ m, m = 2 * r + bt := ⟨_, rfl⟩
          have HD : Hid (∀ i, dg m i = 2 * dg r i % 4294967296 + cy2 r bt i) := show ∀ i, dg m i = 2 * dg r i % 4294967296 + cy2 r bt i from fun i => by rw [hm]; exact dg_twice r bt i hbt
          have HM : Hid (m < 2 * PP) := (by omega : m < 2 * PP)
          rw [← hm] at HV
          have HB : Hid (bt < 2) := hbt
          have hb0 : Hid (bt = cy2 r bt 0) := show bt = cy2 r bt 0 by unfold cy2; rw [if_pos rfl]
          rw [← mix_zero m r] at s0
          have hw : IntKind.u64.wrap ((q : Nat) : Int) = ((q : Nat) : Int) := by rw [IntKind.wrap_u64]; omega
          have hmi : min q 32 = q := by omega
          have cx := s3.cell i hin
          clear hm hrl hbt
          go_wp2_with fail
          rw [hb0.out]
          clear hbit hw hmi cx hb0
          go_loopw [8, 7] (fun t c wr => ∃ i : Nat, i ≤ 5 ∧ t = .int .i64 (i : Int) ∧ c = .int .u32 ((cy2 r bt i : Nat) : Int) ∧ Blk wr (w.heap.size + 1) (uC 5 (mix m r i)) 101 ∧ Blk wr od (dC PP) 101 ∧ Blk wr w.heap.size z5u 101 ∧ Us wr g o n l ∧ Chg w wr []) (fun t _ _ => (5 - intOf t).toNat)
          case atStart => exact ⟨0, by omega, rfl, rfl, s0, s1, s2, s3, s4⟩
          case round =>
            obtain ⟨d, hd, rfl, rfl, b0, b1, b2, b3, b4⟩ := hrel
            clear s0 s1 s2 s3 s4
            by_cases h5 : d < 5
            · have hDI : (d : Int) < 5 := by omega
              have ho := or1 (dg r d) (cy2 r bt d) (dg_lt r d) (cy2_lt r bt d HB.out)
              rw [← HD.out d] at ho
              have hdl := dg_lt r d
              have cA := (b0.cell d).trans ((uC_get 5 (mix m r d) d h5).trans (by rw [mix_at]))
              have fA := b0.frozen d
              have bn : Blk (wr.setCell ⟨w.heap.size + 1, d, none⟩ (.int .u32 ((dg m d : Nat) : Int))) (w.heap.size + 1) (uC 5 (mix m r (d + 1))) 101 := (b0.setCell d _).to (by rw [uC_set, mix_step])
              have b1n := b1.setOther hor d (.int .u32 ((dg m d : Nat) : Int))
              have b2n := b2.setOther (show ¬ w.heap.size = w.heap.size + 1 by omega) d (.int .u32 ((dg m d : Nat) : Int))
              have b3n := b3.chg (Chg.of (gb_set (gb_refl wr _) (k := w.heap.size + 1) d (.int .u32 ((dg m d : Nat) : Int)))) (by simpa using hgr)
              have b4n := b4.setNew (show w.heap.size ≤ w.heap.size + 1 by omega) d (.int .u32 ((dg m d : Nat) : Int))
              have hc : Hid (((dg r d : Nat) : Int) / 2147483648 = ((cy2 r bt (d + 1) : Nat) : Int)) := by show ((dg r d : Nat) : Int) / 2147483648 = ((cy2 r bt (d + 1) : Nat) : Int); rw [cy2_succ]; omega
              clear b0 b1 b2 b3 b4
              go_wp2_with fail
              exact ⟨⟨d + 1, by omega, by go_num, by rw [hc.out], bn, b1n, b2n, b3n, b4n⟩, by simp [intOf]; omega⟩
            · have h9 : d = 5 := by omega
              subst h9
              rw [mix_all] at b0
              have hDI : ¬ (((5 : Nat) : Int) < 5) := by omega
              clear HD
              go_wp2_with (first | (refine wpList_load_row rfl 101 _ rfl (w.heap.size + 1) rfl 101 _ (0, 0) _ b0 Try.underlying101 rfl NumInfo ?_) | (refine wpList_load_row rfl 101 _ rfl od rfl 101 _ (0, 0) _ b1 Try.underlying101 rfl NumInfo ?_))
              refine (below_r m PP (by have := HM.out; unfold PP at *; omega) (by unfold PP; decide) _).mono ?_
              rintro e ψ3 ⟨rfl, kc⟩
              replace b0 := b0.chg kc (by simp)
              replace b1 := b1.chg kc (by simp)
              replace b2 := b2.chg kc (by simp)
              replace b3 := b3.chg kc (by simp)
              replace b4 := b4.trans1 kc
              clear kc
              have hml := HM.out
              by_cases hlt : m < PP
              · rw [decide_eq_true hlt]
                go_wp2_with fail
                exact ⟨⟨q, by omega, by go_num, by rw [← HV.out, Nat.mod_eq_of_lt hlt]; exact b0, b1, b2, b3, b4⟩, by simp [intOf]⟩
              · rw [decide_eq_false hlt]
                go_wp2_with (first | (refine wpList_load_row rfl 101 _ rfl (w.heap.size + 1) rfl 101 _ (0, 0) _ b0 Try.underlying101 rfl NumInfo ?_) | (refine wpList_load_row rfl 101 _ rfl od rfl 101 _ (0, 0) _ b1 Try.underlying101 rfl NumInfo ?_))
                refine (minus_r m PP (by omega) _).mono ?_
                rintro e ψ4 ⟨rfl, kc⟩
                replace b0 := b0.chg kc (by simp)
                replace b1 := b1.chg kc (by simp)
                replace b2 := b2.chg kc (by simp)
                replace b3 := b3.chg kc (by simp)
                replace b4 := b4.trans1 kc
                clear kc
                go_wp2_with (refine wpList_store_row rfl 101 _ _ rfl (w.heap.size + 1) _ rfl rfl 101 _ b0 (by rw [dC_size]; exact NumInfo) (by rw [dC_size, dC_size]) (dC_one _) ?_)
                exact ⟨⟨q, by omega, by go_num, by rw [← HV.out, Nat.mod_eq_sub_mod (by omega), Nat.mod_eq_of_lt (by omega)]; exact b0.setRow _, b1.setRowOther hor _, b2.setRowOther (by omega) _, b3.chg (Chg.of (gb_setRow (k := w.heap.size + 1) (gb_refl _ _) _)) (by simpa using hgr), b4.setRowNew (by omega) _⟩, by simp [intOf]⟩
end Go.Proofs.Ytnopkojpgemldaa
