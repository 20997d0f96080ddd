/- rimeref12.number. -/
import Derived.Test.YtnopkojpgemldaaSrMul
import Derived.Test.YtnopkojpgemldaaSeTk
set_option linter.unusedVariables false
set_option linter.unusedSimpArgs false
set_option linter.unnecessarySimpa false
namespace Go.Proofs.Ytnopkojpgemldaa
open Go.RowKit

/-- Digit q of the first i bytes. -/
def dfk (b : Nat → Nat) (i q : Nat) : Nat := (if 4 * q < i then b (4 * q) else 0) + 256 * (if 4 * q + 1 < i then b (4 * q + 1) else 0) + 65536 * (if 4 * q + 2 < i then b (4 * q + 2) else 0) + 16777216 * (if 4 * q + 3 < i then b (4 * q + 3) else 0)
theorem dfk_zero (b : Nat → Nat) (q : Nat) : dfk b 0 q = 0 := by simp [dfk]
theorem dfk_lt (b : Nat → Nat) (i q : Nat) (h : ∀ j, j < i → b j < 256) : dfk b i q < 4294967296 := by
  have e : ∀ j, (if j < i then b j else 0) < 256 := fun j => by split; exact h j (by omega); decide
  have e0 := e (4 * q); have e1 := e (4 * q + 1); have e2 := e (4 * q + 2); have e3 := e (4 * q + 3)
  unfold dfk
  omega
theorem dfk_other (b : Nat → Nat) (i q : Nat) (h : ¬ q = i / 4) : dfk b (i + 1) q = dfk b i q := by
  unfold dfk
  have e : ∀ j, j / 4 = q → (if j < i + 1 then b j else 0) = (if j < i then b j else 0) := fun j hj => by
    by_cases h1 : j < i
    · rw [if_pos h1, if_pos (by omega)]
    · rw [if_neg h1, if_neg (by omega)]
  rw [e (4 * q) (by omega), e (4 * q + 1) (by omega), e (4 * q + 2) (by omega), e (4 * q + 3) (by omega)]
theorem dfk_same (b : Nat → Nat) (p t : Nat) (ht : t < 4) : dfk b (4 * p + t + 1) p = dfk b (4 * p + t) p + 256 ^ t * b (4 * p + t) := by
  unfold dfk
  have h4 : t = 0 ∨ t = 1 ∨ t = 2 ∨ t = 3 := by omega
  rcases h4 with rfl | rfl | rfl | rfl <;> simp only [Nat.pow_zero, Nat.reducePow, Nat.one_mul, Nat.add_zero] <;> (repeat' split) <;> omega
theorem dfk_low (b : Nat → Nat) (p t : Nat) (ht : t < 4) (h : ∀ j, j < 4 * p + t → b j < 256) : dfk b (4 * p + t) p < 256 ^ t := by
  unfold dfk
  have h4 : t = 0 ∨ t = 1 ∨ t = 2 ∨ t = 3 := by omega
  have a0 := h (4 * p); have a1 := h (4 * p + 1); have a2 := h (4 * p + 2)
  rcases h4 with rfl | rfl | rfl | rfl <;> simp only [Nat.pow_zero, Nat.reducePow, Nat.add_zero] at * <;> (repeat' split) <;> omega
theorem or_dig (x y t : Nat) (ht : t < 4) (hx : x < 256 ^ t) (hy : y < 256) : bits .or .u32 ((x : Nat) : Int) (((y : Nat) : Int) * 2 ^ (8 * t) % 4294967296) = ((x + 256 ^ t * y : Nat) : Int) := by
  have e : ((y : Nat) : Int) * 2 ^ (8 * t) % 4294967296 = ((256 ^ t * y : Nat) : Int) := by
    have h4 : t = 0 ∨ t = 1 ∨ t = 2 ∨ t = 3 := by omega
    rcases h4 with rfl | rfl | rfl | rfl <;> simp <;> omega
  have hp : 256 ^ t = 2 ^ (8 * t) := by rw [Nat.pow_mul]
  have hl : 256 ^ t * y < 4294967296 ∧ x < 4294967296 := by
    have h4 : t = 0 ∨ t = 1 ∨ t = 2 ∨ t = 3 := by omega
    rcases h4 with rfl | rfl | rfl | rfl <;> simp at hx ⊢ <;> omega
  rw [e, u32_or_nat x (256 ^ t * y) hl.2 hl.1, Nat.or_comm, nat_join (8 * t) (256 ^ t * y) x (by rw [hp]; exact Nat.mul_mod_right _ _) (by rw [← hp]; exact hx), Nat.add_comm]
/-- The first i bytes, then 0. -/
def gc (b : Nat → Nat) (i : Nat) : Nat → Nat := fun j => if j < i then b j else 0
theorem p4 (m : Nat) : (4294967296 : Nat) ^ m = 256 ^ (4 * m) := by rw [Nat.pow_mul]
theorem nle_dfk (b : Nat → Nat) (i : Nat) : ∀ m, nle (gc b i) (4 * m) = nv (dfk b i) 0 m
  | 0 => rfl
  | m + 1 => by
    rw [show 4 * (m + 1) = 4 * m + 1 + 1 + 1 + 1 by omega, nle, nle, nle, nle, nle_dfk b i m, nv_snoc, Nat.zero_add, p4]
    unfold dfk gc
    rw [show 4 * m + 1 + 1 = 4 * m + 2 from rfl, show 4 * m + 2 + 1 = 4 * m + 3 from rfl]
    rw [show 256 ^ (4 * m + 1) = 256 ^ (4 * m) * 256 from Nat.pow_succ .., show 256 ^ (4 * m + 2) = 256 ^ (4 * m) * 65536 by rw [Nat.pow_add], show 256 ^ (4 * m + 3) = 256 ^ (4 * m) * 16777216 by rw [Nat.pow_add]]
    generalize 256 ^ (4 * m) = P
    generalize (if 4 * m < i then b (4 * m) else 0) = x0
    generalize (if 4 * m + 1 < i then b (4 * m + 1) else 0) = x1
    generalize (if 4 * m + 2 < i then b (4 * m + 2) else 0) = x2
    generalize (if 4 * m + 3 < i then b (4 * m + 3) else 0) = x3
    grind
theorem nv_num (b : Nat → Nat) (n : Nat) (hn : n ≤ 20) : nv (dfk b n) 0 5 = nle b n := by
  rw [← nle_dfk b n 5]
  obtain ⟨r, hr⟩ : ∃ r, 4 * 5 = n + r := ⟨20 - n, by omega⟩
  rw [hr, nle_ext (gc b n) n r (fun j h1 h2 => by unfold gc; rw [if_neg (by omega)])]
  exact nle_eq n fun i hi => by unfold gc; rw [if_pos hi]
set_option maxHeartbeats 4000000 in
set_option maxRecDepth 100000 in
theorem number_r (g o n cap : Nat) (b : Nat → Nat) (hn : n ≤ 20) (w : World) (hB : Bs w g o n b) :
    Calls Try.prog 60 #[.slice (some ⟨g, o, none⟩) n cap] w fun e w' => e = .returned (.agg (dC (nle b n))) ∧ Chg w w' [] := by
  have hg := hB.lt
  have hbd := hB.bd
  have HV : Hid (uC 5 (dfk b n) = dC (nle b n)) := dC_of (dfk b n) (fun q _ => dfk_lt b n q hbd) _ (nv_num b n hn)
  have HN : Hid (n ≤ 20) := hn
  have B0 : Blk ((w.alloc (.cells z5u 101)).alloc (.cells z5u 101)) w.heap.size z5u 101 := (Blk.new w z5u 101).alloc _
  have B1 : Blk ((w.alloc (.cells z5u 101)).alloc (.cells z5u 101)) (w.heap.size + 1) (uC 5 (dfk b 0)) 101 := by
    have h := Blk.new (w.alloc (.cells z5u 101)) z5u 101
    refine (by simpa using h : Blk _ _ z5u _).to ?_
    rw [z5u_dC]
    exact uC_congr 5 _ _ (fun i _ => by rw [dfk_zero]; simp [dg])
  have C0 : Chg w ((w.alloc (.cells z5u 101)).alloc (.cells z5u 101)) [] := ((Chg.refl w []).alloc _).alloc _
  replace hB := hB.chg C0 (by simp)
  go_enter Try.func60, Try.ntmps60
  go_wp2_with fail
  go_loopw [4] (fun t wr => ∃ k : Nat, k ≤ n ∧ t = .int .i64 (k : Int) ∧ Blk wr (w.heap.size + 1) (uC 5 (dfk b k)) 101 ∧ Blk wr w.heap.size z5u 101 ∧ Bs wr g o n b ∧ Chg w wr []) (fun t _ => ((n : Int) - intOf t).toNat)
  case atStart => exact ⟨0, by omega, rfl, B1, B0, hB, C0⟩
  case round =>
    obtain ⟨k, hk, rfl, b1, b0, u0, c0⟩ := hrel
    clear B1 B0 C0 hB
    have hgw : ¬ g = w.heap.size + 1 := by omega
    by_cases hkn : k < n
    · obtain ⟨p, t, ht, rfl⟩ : ∃ p t, t < 4 ∧ k = 4 * p + t := ⟨k / 4, k % 4, by omega, by omega⟩
      have hbk := hbd (4 * p + t) hkn
      have cB := u0.cell (4 * p + t) hkn
      have hpm : p < 5 := by have := HN.out; omega
      have hjI : (p : Int) < 5 := by omega
      have cA := (b1.cell p).trans (uC_get 5 (dfk b (4 * p + t)) p hpm)
      have fA := b1.frozen p
      have hkI : ((4 * p + t : Nat) : Int) < (n : Int) := by omega
      have hdv : ((4 * p + t : Nat) : Int) / 4 = ((p : Nat) : Int) := by omega
      have hmd : ((4 * p + t : Nat) : Int) % 4 = ((t : Nat) : Int) := by omega
      have hw : IntKind.u64.wrap (8 * ((t : Nat) : Int)) = 8 * ((t : Nat) : Int) := by rw [IntKind.wrap_u64]; omega
      have htn : (8 * ((t : Nat) : Int)).toNat = 8 * t := by omega
      have hmi : min (8 * t) 32 = 8 * t := by omega
      have hor := or_dig (dfk b (4 * p + t) p) (b (4 * p + t)) t ht (dfk_low b p t ht (fun j hj => hbd j (by omega))) hbk
      rw [← dfk_same b p t ht] at hor
      have hset : upd (dfk b (4 * p + t)) p (dfk b (4 * p + t + 1) p) = dfk b (4 * p + t + 1) := by
        funext j
        unfold upd
        by_cases e : j = p
        · subst e; rw [if_pos rfl]
        · rw [if_neg e, dfk_other b (4 * p + t) j (by omega)]
      have bn : Blk (wr.setCell ⟨w.heap.size + 1, p, none⟩ (.int .u32 ((dfk b (4 * p + t + 1) p : Nat) : Int))) (w.heap.size + 1) (uC 5 (dfk b (4 * p + t + 1))) 101 := (b1.setCell p _).to (by rw [uC_set, hset])
      have b0n := b0.setOther (show ¬ w.heap.size = w.heap.size + 1 by omega) p (.int .u32 ((dfk b (4 * p + t + 1) p : Nat) : Int))
      have un := u0.chg (Chg.of (gb_set (gb_refl wr _) (k := w.heap.size + 1) p (.int .u32 ((dfk b (4 * p + t + 1) p : Nat) : Int)))) (by rw [List.mem_singleton]; exact hgw)
      have cn := c0.new (Chg.of (gb_set (gb_refl wr _) (k := w.heap.size + 1) p (.int .u32 ((dfk b (4 * p + t + 1) p : Nat) : Int)))) (by omega)
      clear b1 u0 c0 b0 hset
      generalize hkk : 4 * p + t = k at *
      clear hkk
      go_wp2_with fail
      go_region
      go_wp2_with fail
      exact ⟨⟨k + 1, by omega, by go_num, bn.drew, b0n.drew, un.chg ((Chg.refl _ []).drew) (by simp), cn.drew⟩, by simp [intOf]; omega⟩
    · have hkn2 : k = n := by omega
      subst hkn2
      rw [HV.out] at b1
      have hkI : ¬ ((k : Int) < (k : Int)) := by omega
      clear hkn
      go_wp2_with (first | (refine wpList_load_row rfl 101 _ rfl (w.heap.size + 1) rfl 101 _ (0, 0) _ b1 Try.underlying101 rfl NumInfo ?_) | (refine wpList_store_row rfl 101 _ _ rfl w.heap.size _ rfl rfl 101 _ b0 NumInfo rfl (dC_one _) ?_))
      exact bodyPost_ret (results_cell_row Try.results60 _ _ w.heap.size 101 (dC (nle b k)) (0, 0) _ rfl (Blk.setRow b0 _) Try.underlying101 rfl NumInfo) rfl ⟨rfl, c0.setRowNew (Nat.le_refl _) _⟩
end Go.Proofs.Ytnopkojpgemldaa
