/- rimeref01: Value, Back, add. -/
import Derived.Test.YtialljmkkichiaaRDig
set_option linter.unusedVariables false
set_option linter.unusedSimpArgs false
set_option linter.unnecessarySimpa false
namespace Go.Proofs.Ytialljmkkichiaa
open Go.RowKit N

theorem z16_one : z16.all (·.oneCell') = true := by kernel_rfl
/-- n modulo the prime, of an Int. -/
def rd (a : Int) : Nat := a.toNat % PM
theorem rd_lt (a : Int) : rd a < PM := Nat.mod_lt _ (by unfold PM; decide)
theorem rd_int (a : Int) (h : 0 ≤ a) : ((rd a : Nat) : Int) = a % P := by
  unfold rd
  rw [← PM_eq, Int.natCast_emod, Int.toNat_of_nonneg h]
theorem nb_toNat (a : Int) (ra : R256 a) : nb (byf a) 0 32 = a.toNat := by have := nb_all a ra; omega

set_option maxHeartbeats 4000000 in
set_option maxRecDepth 100000 in
theorem Value_r (a : Int) (ra : R256 a) (w : World) : Calls Try.prog 71 #[fe a] w fun e w' => e = .returned (.agg (dC (rd a))) ∧ Chg w w' [] := by
  have B0 : Blk ((w.alloc (.cells (feC a) 24)).alloc (.cells z16 84)) w.heap.size (feC a) 24 := (Blk.new w (feC a) 24).alloc _
  have B1 : Blk ((w.alloc (.cells (feC a) 24)).alloc (.cells z16 84)) (w.heap.size + 1) z16 84 := by have h := Blk.new (w.alloc (.cells (feC a) 24)) z16 84; simpa using h
  have C0 := ((Chg.refl w []).alloc (.cells (feC a) 24)).alloc (.cells z16 84)
  go_enter Try.func71, Try.ntmps71
  go_wp2_with fail
  refine (digits_r w.heap.size 0 32 32 (byf a) (by decide) _ B0.bs).mono ?_
  rintro e v1 ⟨h, rfl, hh, bh, k1⟩
  have b1 := B1.chg k1 (by simp)
  have c1 := C0.trans1 k1
  clear B0 B1 C0 k1
  go_wp2_with fail
  refine (mod_r h 0 16 16 (dfk (byf a) 32) (by decide) (fun i _ => Nat.lt_trans (dfk_lt (byf a) 32 32 i (Nat.le_refl _) (fun j _ => by have := byf_int a j; have := by8_range a j; omega)) (by decide)) _ (Us.of bh)).mono ?_
  rintro e v2 ⟨rfl, k2⟩
  have hval : nv (dfk (byf a) 32) 0 16 % PM = rd a := by unfold rd; rw [nv_digits (byf a) 32, nb_toNat a ra]
  rw [hval]
  replace b1 := b1.chg k2 (by simp)
  replace c1 := c1.trans1 k2
  clear k2 hval bh
  go_wp2_with (refine wpList_store_row rfl 84 _ _ rfl (w.heap.size + 1) _ rfl rfl 84 _ b1 (nInfo16 _) rfl (uC_one _ _) ?_)
  exact bodyPost_ret (results_cell_row Try.results71 _ _ (w.heap.size + 1) 84 (dC (rd a)) (0, 0) _ rfl (Blk.setRow b1 _) Try.underlying84 rfl (nInfo16 _)) rfl ⟨rfl, c1.setRowNew (by omega) _⟩

/-! ### Back -/
/-- n bytes, by a function. -/
def bC (n : Nat) (f : Nat → Nat) : Array Value := ((List.range n).map fun i => Value.int .u8 ((f i : Nat) : Int)).toArray
theorem bC_size (n : Nat) (f : Nat → Nat) : (bC n f).size = n := by simp [bC]
theorem bC_get (n : Nat) (f : Nat → Nat) (i : Nat) (h : i < n) : (bC n f)[i]? = some (.int .u8 ((f i : Nat) : Int)) := by simp [bC, h]
theorem bC_none (n : Nat) (f : Nat → Nat) (i : Nat) (h : ¬ i < n) : (bC n f)[i]? = none := Array.getElem?_eq_none (by rw [bC_size]; omega)
theorem bC_congr (n : Nat) (f g : Nat → Nat) (h : ∀ i, i < n → f i = g i) : bC n f = bC n g := by
  apply Array.ext_getElem?
  intro i
  by_cases hi : i < n
  · rw [bC_get n f i hi, bC_get n g i hi, h i hi]
  · rw [bC_none n f i hi, bC_none n g i hi]
theorem bC_set (n : Nat) (f : Nat → Nat) (k x : Nat) : (bC n f).setIfInBounds k (.int .u8 ((x : Nat) : Int)) = bC n (upd f k x) := by
  apply Array.ext_getElem?
  intro i
  rw [Array.getElem?_setIfInBounds]
  by_cases hi : i < n
  · rw [bC_get n (upd f k x) i hi]
    by_cases hk : k = i
    · subst hk; rw [if_pos rfl, if_pos (by rw [bC_size]; exact hi), upd_same]
    · rw [if_neg hk, bC_get n f i hi, upd_other f k x i (fun e => hk e.symm)]
  · rw [bC_none n (upd f k x) i hi, bC_none n f i hi]
    split
    · rw [if_neg (by rw [bC_size]; omega)]
    · rfl
theorem bC_fe (n : Nat) : bC 32 (fun i => n / 256 ^ i % 256) = feC ((n : Nat) : Int) := by
  apply Array.ext_getElem?
  intro i
  by_cases hi : i < 32
  · rw [bC_get 32 _ i hi, feC_get _ i hi, by8_nat]
  · rw [bC_none 32 _ i hi, Array.getElem?_eq_none (by rw [feC_size]; omega)]
theorem z32_bC : z32 = bC 32 fun _ => 0 := by kernel_rfl
theorem pow_two (i : Nat) : (65536 : Nat) ^ i = 256 ^ (2 * i) := by rw [show (65536 : Nat) = 256 ^ 2 by decide, ← Nat.pow_mul]
theorem dg_low (n i : Nat) : dg n i % 256 = n / 256 ^ (2 * i) % 256 := by unfold dg; rw [pow_two]; omega
theorem dg_high (n i : Nat) : dg n i / 256 = n / 256 ^ (2 * i + 1) % 256 := by
  unfold dg
  rw [pow_two, Nat.pow_succ, ← Nat.div_div_eq_div_mul]
  omega
/-- The bytes, when i digits have been laid. -/
def bfk (n i j : Nat) : Nat := if j < 2 * i then n / 256 ^ j % 256 else 0
theorem bfk_step (n i j : Nat) : upd (upd (bfk n i) (2 * i) (n / 256 ^ (2 * i) % 256)) (2 * i + 1) (n / 256 ^ (2 * i + 1) % 256) j = bfk n (i + 1) j := by
  by_cases e1 : j = 2 * i + 1
  · subst e1; rw [upd_same]; unfold bfk; rw [if_pos (by omega)]
  · rw [upd_other _ _ _ _ e1]
    by_cases e0 : j = 2 * i
    · subst e0; rw [upd_same]; unfold bfk; rw [if_pos (by omega)]
    · rw [upd_other _ _ _ _ e0]
      unfold bfk
      by_cases h : j < 2 * i
      · rw [if_pos h, if_pos (by omega)]
      · rw [if_neg h, if_neg (by omega)]

set_option maxHeartbeats 4000000 in
set_option maxRecDepth 100000 in
theorem Back_r (n : Nat) (w : World) : Calls Try.prog 67 #[.agg (dC n)] w fun e w' => e = .returned (fe ((n : Nat) : Int)) ∧ Chg w w' [] := by
  have B0 : Blk (((w.alloc (.cells (dC n) 84)).alloc (.cells z32 24)).alloc (.cells z32 24)) w.heap.size (dC n) 84 := ((Blk.new w (dC n) 84).alloc _).alloc _
  have B1 : Blk (((w.alloc (.cells (dC n) 84)).alloc (.cells z32 24)).alloc (.cells z32 24)) (w.heap.size + 1) z32 24 := by have h := (Blk.new (w.alloc (.cells (dC n) 84)) z32 24).alloc (.cells z32 24); simpa using h
  have B2 : Blk (((w.alloc (.cells (dC n) 84)).alloc (.cells z32 24)).alloc (.cells z32 24)) (w.heap.size + 1 + 1) z32 24 := by have h := Blk.new ((w.alloc (.cells (dC n) 84)).alloc (.cells z32 24)) z32 24; simpa using h
  have C0 := (((Chg.refl w []).alloc (.cells (dC n) 84)).alloc (.cells z32 24)).alloc (.cells z32 24)
  replace B2 := B2.to (z32_bC.trans (bC_congr 32 _ (bfk n 0) (fun i _ => by simp [bfk])))
  go_enter Try.func67, Try.ntmps67
  go_wp2_with fail
  go_loopw [4] (fun t wr => ∃ i : Nat, i ≤ 16 ∧ t = .int .i64 (i : Int) ∧ Blk wr w.heap.size (dC n) 84 ∧ Blk wr (w.heap.size + 1) z32 24 ∧ Blk wr (w.heap.size + 1 + 1) (bC 32 (bfk n i)) 24 ∧ Chg w wr []) (fun t _ => (16 - intOf t).toNat)
  case atStart => exact ⟨0, by omega, rfl, B0, B1, B2, C0⟩
  case round =>
    obtain ⟨i, hi, rfl, b0, b1, b2, c0⟩ := hrel
    clear B0 B1 B2 C0
    by_cases hi16 : i < 16
    · have hI : (i : Int) < 16 := by omega
      have hI2 : 2 * (i : Int) < 32 := by omega
      have hI3 : 2 * (i : Int) + 1 < 32 := by omega
      have cN := (b0.cell i).trans (uC_get 16 (dg n) i hi16)
      have hdl := dg_lt n i
      have hlow := dg_low n i
      have hhigh := dg_high n i
      obtain ⟨x0, hx0⟩ : ∃ x, x = n / 256 ^ (2 * i) % 256 := ⟨_, rfl⟩
      obtain ⟨x1, hx1⟩ : ∃ x, x = n / 256 ^ (2 * i + 1) % 256 := ⟨_, rfl⟩
      rw [← hx0] at hlow
      rw [← hx1] at hhigh
      have w0 : IntKind.u8.wrap ((dg n i : Nat) : Int) = ((x0 : Nat) : Int) := by rw [IntKind.wrap_u8']; omega
      have w1 : IntKind.u8.wrap (((dg n i : Nat) : Int) / 256) = ((x1 : Nat) : Int) := by rw [IntKind.wrap_u8']; omega
      have ca := (b2.cell (2 * i)).trans (bC_get 32 (bfk n i) (2 * i) (by omega))
      have cb := (b2.cell (2 * i + 1)).trans (bC_get 32 (bfk n i) (2 * i + 1) (by omega))
      have fa := b2.frozen (2 * i)
      have fb := b2.frozen (2 * i + 1)
      have b2n := ((b2.setCell (2 * i) (.int .u8 ((x0 : Nat) : Int))).setCell (2 * i + 1) (.int .u8 ((x1 : Nat) : Int))).to ((congrArg (fun c => c.setIfInBounds (2 * i + 1) (.int .u8 ((x1 : Nat) : Int))) (bC_set 32 (bfk n i) (2 * i) x0)).trans ((bC_set 32 _ (2 * i + 1) x1).trans (bC_congr 32 _ (bfk n (i + 1)) (fun j _ => by rw [hx0, hx1]; exact bfk_step n i j))))
      have b0n := (b0.setOther (show ¬ w.heap.size = w.heap.size + 1 + 1 by omega) (2 * i) (.int .u8 ((x0 : Nat) : Int))).setOther (show ¬ w.heap.size = w.heap.size + 1 + 1 by omega) (2 * i + 1) (.int .u8 ((x1 : Nat) : Int))
      have b1n := (b1.setOther (show ¬ w.heap.size + 1 = w.heap.size + 1 + 1 by omega) (2 * i) (.int .u8 ((x0 : Nat) : Int))).setOther (show ¬ w.heap.size + 1 = w.heap.size + 1 + 1 by omega) (2 * i + 1) (.int .u8 ((x1 : Nat) : Int))
      have cn := (c0.new (Chg.of (gb_set (gb_refl wr _) (2 * i) (.int .u8 ((x0 : Nat) : Int)))) (show w.heap.size ≤ w.heap.size + 1 + 1 by omega)).new (Chg.of (gb_set (gb_refl _ _) (2 * i + 1) (.int .u8 ((x1 : Nat) : Int)))) (show w.heap.size ≤ w.heap.size + 1 + 1 by omega)
      clear b0 b1 b2 c0 hx0 hx1 hlow hhigh
      go_wp2_with fail
      go_roundw
      case rel => exact ⟨i + 1, by omega, by go_num, b0n, b1n, b2n, cn⟩
      case measure => simp [intOf]; omega
    · have hi2 : i = 16 := by omega
      subst hi2
      replace b2 := b2.to ((bC_congr 32 _ (fun j => n / 256 ^ j % 256) (fun j hj => if_pos (by omega))).trans (bC_fe n))
      clear hi hi16
      go_wp2_with (first | (refine wpList_load_row rfl 24 _ rfl (w.heap.size + 1 + 1) rfl 24 _ (0, 0) _ b2 Try.underlying24 rfl feInfo ?_) | (refine wpList_store_row rfl 24 _ _ rfl (w.heap.size + 1) _ rfl rfl 24 _ b1 feInfo rfl (feC_one _) ?_))
      exact bodyPost_ret (results_cell_row Try.results67 _ _ (w.heap.size + 1) 24 (feC ((n : Nat) : Int)) (0, 0) _ rfl (Blk.setRow b1 _) Try.underlying24 rfl feInfo) rfl ⟨rfl, c0.setRowNew (by omega) _⟩
end Go.Proofs.Ytialljmkkichiaa
