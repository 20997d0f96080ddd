/- rimeref02.digits, Value. -/
import Derived.Test.YtledggdoehnlcaaRBack
set_option linter.unusedVariables false
set_option linter.unusedSimpArgs false
set_option linter.unnecessarySimpa false
namespace Go.Proofs.Ytledggdoehnlcaa
open Go.RowKit N

theorem u32Info : (Try.prog.info? 65).map (·.size) = some 1 := by kernel_rfl
/-- Digit q of the first i bytes. -/
def dfk (b : Nat → Nat) (i q : Nat) : Nat := (if 4 * q < i then b (4 * q) else 0) + 256 * (if 4 * q + 1 < i then b (4 * q + 1) else 0) + 65536 * (if 4 * q + 2 < i then b (4 * q + 2) else 0) + 16777216 * (if 4 * q + 3 < i then b (4 * q + 3) else 0)
theorem dfk_zero (b : Nat → Nat) (q : Nat) : dfk b 0 q = 0 := by simp [dfk]
theorem dfk_lt (b : Nat → Nat) (i q : Nat) (h : ∀ j, j < i → b j < 256) : dfk b i q < 4294967296 := by
  have e : ∀ j, (if j < i then b j else 0) < 256 := fun j => by split; exact h j (by omega); decide
  have e0 := e (4 * q); have e1 := e (4 * q + 1); have e2 := e (4 * q + 2); have e3 := e (4 * q + 3)
  unfold dfk
  omega
theorem dfk_other (b : Nat → Nat) (i q : Nat) (h : ¬ q = i / 4) : dfk b (i + 1) q = dfk b i q := by
  unfold dfk
  have e : ∀ j, j / 4 = q → (if j < i + 1 then b j else 0) = (if j < i then b j else 0) := fun j hj => by
    by_cases h1 : j < i
    · rw [if_pos h1, if_pos (by omega)]
    · rw [if_neg h1, if_neg (by omega)]
  rw [e (4 * q) (by omega), e (4 * q + 1) (by omega), e (4 * q + 2) (by omega), e (4 * q + 3) (by omega)]
theorem dfk_same (b : Nat → Nat) (p t : Nat) (ht : t < 4) : dfk b (4 * p + t + 1) p = dfk b (4 * p + t) p + 256 ^ t * b (4 * p + t) := by
  unfold dfk
  have h4 : t = 0 ∨ t = 1 ∨ t = 2 ∨ t = 3 := by omega
  rcases h4 with rfl | rfl | rfl | rfl <;> simp only [Nat.pow_zero, Nat.reducePow, Nat.one_mul, Nat.add_zero] <;> (repeat' split) <;> omega
theorem dfk_low (b : Nat → Nat) (p t : Nat) (ht : t < 4) (h : ∀ j, j < 4 * p + t → b j < 256) : dfk b (4 * p + t) p < 256 ^ t := by
  unfold dfk
  have h4 : t = 0 ∨ t = 1 ∨ t = 2 ∨ t = 3 := by omega
  have a0 := h (4 * p); have a1 := h (4 * p + 1); have a2 := h (4 * p + 2)
  rcases h4 with rfl | rfl | rfl | rfl <;> simp only [Nat.pow_zero, Nat.reducePow, Nat.add_zero] at * <;> (repeat' split) <;> omega
theorem or_dig (x y t : Nat) (ht : t < 4) (hx : x < 256 ^ t) (hy : y < 256) : bits .or .u32 ((x : Nat) : Int) (((y : Nat) : Int) * 2 ^ (8 * t) % 4294967296) = ((x + 256 ^ t * y : Nat) : Int) := by
  have e : ((y : Nat) : Int) * 2 ^ (8 * t) % 4294967296 = ((256 ^ t * y : Nat) : Int) := by
    have h4 : t = 0 ∨ t = 1 ∨ t = 2 ∨ t = 3 := by omega
    rcases h4 with rfl | rfl | rfl | rfl <;> simp <;> omega
  have hp : 256 ^ t = 2 ^ (8 * t) := by rw [Nat.pow_mul]
  have hl : 256 ^ t * y < 4294967296 ∧ x < 4294967296 := by
    have h4 : t = 0 ∨ t = 1 ∨ t = 2 ∨ t = 3 := by omega
    rcases h4 with rfl | rfl | rfl | rfl <;> simp at hx ⊢ <;> omega
  rw [e, u32_or_nat x (256 ^ t * y) hl.2 hl.1, Nat.or_comm, nat_join (8 * t) (256 ^ t * y) x (by rw [hp]; exact Nat.mul_mod_right _ _) (by rw [← hp]; exact hx), Nat.add_comm]
/-- The digits' number is the bytes'. -/
theorem nv_dfk (b : Nat → Nat) (i : Nat) : ∀ m k, nv (dfk b i) k m = nb (fun j => if j < i then b j else 0) (4 * k) (4 * m)
  | 0, k => rfl
  | m + 1, k => by
    rw [nv_succ, nv_dfk b i m (k + 1), show 4 * (m + 1) = 4 * m + 1 + 1 + 1 + 1 by omega]
    rw [nb_succ, nb_succ, nb_succ, nb_succ, show 4 * (k + 1) = 4 * k + 1 + 1 + 1 + 1 by omega, show 4 * k + 1 + 1 = 4 * k + 2 from rfl, show 4 * k + 2 + 1 = 4 * k + 3 from rfl]
    unfold dfk
    omega
theorem nb_zero_all (f : Nat → Nat) : ∀ m k, (∀ j, k ≤ j → f j = 0) → nb f k m = 0
  | 0, _, _ => rfl
  | m + 1, k, h => by rw [nb_succ, h k (Nat.le_refl _), nb_zero_all f m (k + 1) (fun j hj => h j (by omega))]
theorem nv_digits (b : Nat → Nat) (n : Nat) : nv (dfk b n) 0 ((n + 3) / 4) = nb b 0 n := by
  rw [nv_dfk, Nat.mul_zero]
  obtain ⟨r, hr⟩ : ∃ r, 4 * ((n + 3) / 4) = n + r := ⟨4 * ((n + 3) / 4) - n, by omega⟩
  rw [hr, nb_add, Nat.zero_add, nb_zero_all _ r n (fun j hj => if_neg (by omega)), Nat.mul_zero, Nat.add_zero]
  exact nb_congr _ _ n 0 (fun i _ h => if_pos (by omega))

theorem made_u32 (n : Nat) : madeCells #[.int .u32 0] n = uC n fun _ => 0 := by
  apply Array.ext_getElem?
  intro i
  by_cases hi : i < n
  · rw [uC_get n _ i hi]
    have hs : i < (Array.range n).size := by simpa using hi
    unfold madeCells
    rw [Array.getElem?_map, Array.getElem?_eq_getElem hs]
    simp [Nat.mod_one]
  · rw [uC_none n _ i hi, Array.getElem?_eq_none (by rw [size_madeCells]; omega)]
theorem u32Zero : ∃ i : TypeInfo, Try.prog.info? 65 = some i ∧ i.zero = some (.int .u32 0) ∧ i.bytes = 4 ∧ i.size = 1 := by
  have h : (Try.prog.info? 65).map (fun i => (i.zero, i.bytes, i.size)) = some (some (.int .u32 0), 4, 1) := by kernel_rfl
  cases hi : Try.prog.info? 65 with
  | none => rw [hi] at h; cases h
  | some i =>
    rw [hi] at h
    injection h with h
    injection h with h1 h2
    injection h2 with h2 h3
    exact ⟨i, rfl, h1, h2, h3⟩
theorem mkU (n : Nat) (hn : n ≤ 70368744177664) (w : World) : (Instr.makeSlice 69 (.int .i64 (n : Int)) (.int .i64 (n : Int))).run Try.prog w = .ok (.slice (some ⟨w.heap.size, 0, none⟩) n n) (w.alloc (.cells (uC n fun _ => 0) 65)) := by
  obtain ⟨i, hi, hz, hb, hs⟩ := u32Zero
  have h := run_make (P := Try.prog) w 69 65 i (.int .u32 0) Try.underlying69 hi hz .i64 .i64 (n : Int) (n : Int) (by omega) (by omega) (by rw [hb]; omega) (by omega)
  rw [hs, Nat.mul_one] at h
  simp only [Int.toNat_natCast, Value.cells, made_u32] at h
  exact h

set_option maxHeartbeats 4000000 in
set_option maxRecDepth 100000 in
theorem digits_r (g o n cap : Nat) (b : Nat → Nat) (hn : n ≤ 140737488355328) (w : World) (hB : Bs w g o n b) :
    Calls Try.prog 51 #[.slice (some ⟨g, o, none⟩) n cap] w fun e w' => ∃ h, e = .returned (.slice (some ⟨h, 0, none⟩) ((n + 3) / 4) ((n + 3) / 4)) ∧ w.heap.size ≤ h ∧ Blk w' h (uC ((n + 3) / 4) (dfk b n)) 65 ∧ Chg w w' [] := by
  have hg := hB.lt
  have hbd := hB.bd
  obtain ⟨m, hm⟩ : ∃ m, m = (n + 3) / 4 := ⟨_, rfl⟩
  rw [← hm]
  have hmk := mkU m (by omega)
  have hmI : ((n : Int) + 3) / 4 = (m : Int) := by omega
  have hmI' : Hid (m = (n + 3) / 4) := hm
  clear hm
  have B1 := Blk.new w (uC m fun _ => 0) 65
  rw [uC_congr m _ (dfk b 0) (fun i _ => (dfk_zero b i).symm)] at B1
  have C0 := (Chg.refl w []).alloc (.cells (uC m fun _ => 0) 65)
  replace hB := hB.alloc (.cells (uC m fun _ => 0) 65)
  rw [uC_congr m _ (dfk b 0) (fun i _ => (dfk_zero b i).symm)] at C0 hB
  rw [uC_congr m _ (dfk b 0) (fun i _ => (dfk_zero b i).symm)] at hmk
  go_enter Try.func51, Try.ntmps51
  go_wp2_with fail
  clear hmk
  go_loopw [4] (fun t wr => ∃ k : Nat, k ≤ n ∧ t = .int .i64 (k : Int) ∧ Blk wr w.heap.size (uC m (dfk b k)) 65 ∧ Bs wr g o n b ∧ Chg w wr []) (fun t _ => ((n : Int) - intOf t).toNat)
  case atStart => exact ⟨0, by omega, rfl, B1, hB, C0⟩
  case round =>
    obtain ⟨k, hk, rfl, b1, u0, c0⟩ := hrel
    clear B1 C0 hB
    have hgw : ¬ g = w.heap.size := by omega
    by_cases hkn : k < n
    · obtain ⟨p, t, ht, rfl⟩ : ∃ p t, t < 4 ∧ k = 4 * p + t := ⟨k / 4, k % 4, by omega, by omega⟩
      have hbk := hbd (4 * p + t) hkn
      have cB := u0.cell (4 * p + t) hkn
      have hpm : p < m := by have := hmI'.out; omega
      have hjI : (p : Int) < (m : Int) := by omega
      have cA := (b1.cell p).trans (uC_get m (dfk b (4 * p + t)) p hpm)
      have fA := b1.frozen p
      have hkI : ((4 * p + t : Nat) : Int) < (n : Int) := by omega
      have hdv : ((4 * p + t : Nat) : Int) / 4 = ((p : Nat) : Int) := by omega
      have hmd : ((4 * p + t : Nat) : Int) % 4 = ((t : Nat) : Int) := by omega
      have hw : IntKind.u64.wrap (8 * ((t : Nat) : Int)) = 8 * ((t : Nat) : Int) := by rw [IntKind.wrap_u64]; omega
      have htn : (8 * ((t : Nat) : Int)).toNat = 8 * t := by omega
      have hmi : min (8 * t) 32 = 8 * t := by omega
      have hor := or_dig (dfk b (4 * p + t) p) (b (4 * p + t)) t ht (dfk_low b p t ht (fun j hj => hbd j (by omega))) hbk
      rw [← dfk_same b p t ht] at hor
      have hset : upd (dfk b (4 * p + t)) p (dfk b (4 * p + t + 1) p) = dfk b (4 * p + t + 1) := by
        funext j
        unfold upd
        by_cases e : j = p
        · subst e; rw [if_pos rfl]
        · rw [if_neg e, dfk_other b (4 * p + t) j (by omega)]
      have bn : Blk (wr.setCell ⟨w.heap.size, p, none⟩ (.int .u32 ((dfk b (4 * p + t + 1) p : Nat) : Int))) w.heap.size (uC m (dfk b (4 * p + t + 1))) 65 := (b1.setCell p _).to (by rw [uC_set, hset])
      have un := u0.chg (Chg.of (gb_set (gb_refl wr _) p (.int .u32 ((dfk b (4 * p + t + 1) p : Nat) : Int)))) (by rw [List.mem_singleton]; exact hgw)
      have cn := c0.new (Chg.of (gb_set (gb_refl wr _) p (.int .u32 ((dfk b (4 * p + t + 1) p : Nat) : Int)))) (Nat.le_refl _)
      clear b1 u0 c0 hset
      generalize hkk : 4 * p + t = k at *
      clear hkk
      go_wp2_with fail
      go_region
      go_wp2_with fail
      exact ⟨⟨k + 1, by omega, by go_num, bn.drew, un.chg ((Chg.refl _ []).drew) (by simp), cn.drew⟩, by simp [intOf]; omega⟩
    · have hkn2 : k = n := by omega
      subst hkn2
      clear hkn
      go_wp2
      go_ret
      exact ⟨w.heap.size, rfl, Nat.le_refl _, b1, c0⟩

set_option maxHeartbeats 4000000 in
set_option maxRecDepth 100000 in
theorem Value_r (n : Nat) (hn : n < 115792089237316195423570985008687907853269984665640564039457584007913129639936) (w : World) :
    Calls Try.prog 31 #[fe (n : Int)] w fun e w' => e = .returned (.agg (dC (n % LN))) ∧ Chg w w' [] := by
  have B0 : Blk ((w.alloc (.cells (feC (n : Int)) 24)).alloc (.cells z8u 67)) w.heap.size (feC (n : Int)) 24 := (Blk.new w (feC (n : Int)) 24).alloc _
  have B1 : Blk ((w.alloc (.cells (feC (n : Int)) 24)).alloc (.cells z8u 67)) (w.heap.size + 1) z8u 67 := by have h := Blk.new (w.alloc (.cells (feC (n : Int)) 24)) z8u 67; simpa using h
  have C0 : Chg w ((w.alloc (.cells (feC (n : Int)) 24)).alloc (.cells z8u 67)) [] := ((Chg.refl w []).alloc _).alloc _
  obtain ⟨q, hq⟩ : ∃ q, q = n % LN := ⟨_, rfl⟩
  rw [← hq]
  have HQ : Hid (q = n % LN) := hq
  clear hq
  go_enter Try.func31, Try.ntmps31
  go_wp2_with fail
  refine (digits_r w.heap.size 0 32 32 (bof (n : Int)) (by decide) _ (Bs.ofFe B0)).mono ?_
  rintro e v1 ⟨h, rfl, hh, bh, k⟩
  replace B1 := B1.chg k (by simp)
  replace C0 := C0.trans1 k
  have hbd : ∀ i, i < 8 → dfk (bof (n : Int)) 32 i < 4294967296 := fun i _ => dfk_lt _ _ _ (fun j _ => by have := by8_bd (n : Int) j; unfold bof; omega)
  clear k B0
  go_wp2_with fail
  refine (mod_r h 0 8 8 (dfk (bof (n : Int)) 32) (by decide) _ (Us.of bh hbd)).mono ?_
  rintro e v2 ⟨rfl, k⟩
  rw [show nv (dfk (bof (n : Int)) 32) 0 8 = n from (nv_digits (bof (n : Int)) 32).trans (nb_bof n hn), ← HQ.out]
  replace B1 := B1.chg k (by simp)
  replace C0 := C0.trans1 k
  clear k bh hbd HQ
  go_wp2_with (refine wpList_store_row rfl 67 _ _ rfl (w.heap.size + 1) _ rfl rfl 67 _ B1 NumInfo rfl (dC_one _) ?_)
  exact bodyPost_ret (results_cell_row Try.results31 _ _ (w.heap.size + 1) 67 (dC q) (0, 0) _ rfl (Blk.setRow B1 _) Try.underlying67 rfl NumInfo) rfl ⟨rfl, C0.setRowNew (by omega) _⟩

end Go.Proofs.Ytledggdoehnlcaa
