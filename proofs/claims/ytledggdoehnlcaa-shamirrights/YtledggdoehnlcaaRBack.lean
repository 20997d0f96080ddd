/- rimeref02.Back. -/
import Derived.Test.YtledggdoehnlcaaRMod
set_option linter.unusedVariables false
set_option linter.unusedSimpArgs false
set_option linter.unnecessarySimpa false
namespace Go.Proofs.Ytledggdoehnlcaa
open Go.RowKit N

/-- 32 bytes, by a function. -/
def b32 (f : Nat → Int) : Array Value := ((List.range 32).map fun i => Value.int .u8 (f i)).toArray
theorem b32_size (f : Nat → Int) : (b32 f).size = 32 := by simp [b32]
theorem b32_get (f : Nat → Int) (i : Nat) (h : i < 32) : (b32 f)[i]? = some (.int .u8 (f i)) := by simp [b32, h]
theorem b32_none (f : Nat → Int) (i : Nat) (h : ¬ i < 32) : (b32 f)[i]? = none := Array.getElem?_eq_none (by rw [b32_size]; omega)
theorem b32_set (f f' : Nat → Int) (k : Nat) (x : Int) (h : ∀ i, i < 32 → f' i = if i = k then x else f i) : (b32 f).setIfInBounds k (.int .u8 x) = b32 f' := by
  apply Array.ext_getElem?
  intro i
  rw [Array.getElem?_setIfInBounds]
  by_cases hi : i < 32
  · rw [b32_get f' i hi, h i hi]
    by_cases hk : k = i
    · subst hk; rw [if_pos rfl, if_pos (by rw [b32_size]; exact hi), if_pos rfl]
    · rw [if_neg hk, b32_get f i hi, if_neg (fun e => hk e.symm)]
  · rw [b32_none f' i hi, b32_none f i hi]
    split
    · rw [if_neg (by rw [b32_size]; omega)]
    · rfl
theorem b32_fe (n : Int) (f : Nat → Int) (h : ∀ i, i < 32 → f i = by8 n i) : b32 f = feC n := by
  apply Array.ext_getElem?
  intro i
  by_cases hi : i < 32
  · rw [b32_get f i hi, feC_get n i hi, h i hi]
  · rw [b32_none f i hi, Array.getElem?_eq_none (by rw [feC_size]; omega)]
theorem b32_z32 : b32 (fun _ => 0) = z32 := by kernel_rfl
/-- The first i bytes of n. -/
def bx (n : Int) (i : Nat) : Nat → Int := fun j => if j < i then by8 n j else 0
theorem bx_step (n : Int) (i j : Nat) : bx n (i + 1) j = if j = i then by8 n i else bx n i j := by
  unfold bx
  by_cases h : j = i
  · subst h; rw [if_pos (by omega), if_pos rfl]
  · rw [if_neg h]
    by_cases h2 : j < i
    · rw [if_pos h2, if_pos (by omega)]
    · rw [if_neg h2, if_neg (by omega)]
theorem by8_dg (n p t : Nat) (ht : t < 4) : ((dg n p : Nat) : Int) / 2 ^ (8 * t) % 256 = by8 (n : Int) (4 * p + t) := by
  have e : by8 (n : Int) (4 * p + t) = ((n / 256 ^ (4 * p + t) % 256 : Nat) : Int) := by
    unfold by8
    rw [Int.natCast_emod, Int.natCast_ediv, Int.natCast_pow]; rfl
  rw [e, Nat.pow_add, Nat.pow_mul, ← Nat.div_div_eq_div_mul]
  unfold dg
  generalize n / (256 ^ 4) ^ p = X at *
  have h4 : t = 0 ∨ t = 1 ∨ t = 2 ∨ t = 3 := by omega
  rcases h4 with rfl | rfl | rfl | rfl <;> simp <;> omega

set_option maxHeartbeats 4000000 in
set_option maxRecDepth 100000 in
theorem Back_r (n : Nat) (w : World) :
    Calls Try.prog 32 #[.agg (dC n)] w fun e w' => e = .returned (fe (n : Int)) ∧ Chg w w' [] := by
  have B0 : Blk (((w.alloc (.cells (dC n) 67)).alloc (.cells z32 24)).alloc (.cells z32 24)) w.heap.size (dC n) 67 := ((Blk.new w (dC n) 67).alloc _).alloc _
  have B1 : Blk (((w.alloc (.cells (dC n) 67)).alloc (.cells z32 24)).alloc (.cells z32 24)) (w.heap.size + 1) z32 24 := by have h := (Blk.new (w.alloc (.cells (dC n) 67)) z32 24).alloc (.cells z32 24); simpa using h
  have B2 : Blk (((w.alloc (.cells (dC n) 67)).alloc (.cells z32 24)).alloc (.cells z32 24)) (w.heap.size + 2) z32 24 := by have h := Blk.new ((w.alloc (.cells (dC n) 67)).alloc (.cells z32 24)) z32 24; simpa using h
  have C0 : Chg w (((w.alloc (.cells (dC n) 67)).alloc (.cells z32 24)).alloc (.cells z32 24)) [] := (((Chg.refl w []).alloc _).alloc _).alloc _
  rw [show z32 = b32 (bx (n : Int) 0) from b32_z32.symm] at B2
  go_enter Try.func32, Try.ntmps32
  go_wp2_with fail
  go_loopw [4] (fun t wr => ∃ i : Nat, i ≤ 32 ∧ t = .int .i64 (i : Int) ∧ Blk wr w.heap.size (dC n) 67 ∧ Blk wr (w.heap.size + 1) z32 24 ∧ Blk wr (w.heap.size + 2) (b32 (bx (n : Int) i)) 24 ∧ Chg w wr []) (fun t _ => (32 - intOf t).toNat)
  case atStart => exact ⟨0, by omega, rfl, B0, B1, B2, C0⟩
  case round =>
    obtain ⟨i, hi, rfl, b0, b1, b2, c0⟩ := hrel
    clear B0 B1 B2 C0
    by_cases h32 : i < 32
    · obtain ⟨p, t, ht, hp, rfl⟩ : ∃ p t, t < 4 ∧ p < 8 ∧ i = 4 * p + t := ⟨i / 4, i % 4, by omega, by omega, by omega⟩
      have hI : ((4 * p + t : Nat) : Int) < 32 := by omega
      have hI0 : (0 : Int) ≤ ((4 * p + t : Nat) : Int) := by omega
      have hdv : ((4 * p + t : Nat) : Int) / 4 = ((p : Nat) : Int) := by omega
      have hmd : ((4 * p + t : Nat) : Int) % 4 = ((t : Nat) : Int) := by omega
      have hpl : ((p : Nat) : Int) < 8 := by omega
      have hw : IntKind.u64.wrap (8 * ((t : Nat) : Int)) = 8 * ((t : Nat) : Int) := by rw [IntKind.wrap_u64]; omega
      have htn : (8 * ((t : Nat) : Int)).toNat = 8 * t := by omega
      have hmi : min (8 * t) 32 = 8 * t := by omega
      have cA := (b0.cell p).trans (uC_get 8 (dg n) p hp)
      have cB := (b2.cell (4 * p + t)).trans (b32_get _ (4 * p + t) h32)
      have fB := b2.frozen (4 * p + t)
      have hv := by8_dg n p t ht
      have b2n : Blk (wr.setCell ⟨w.heap.size + 2, 4 * p + t, none⟩ (.int .u8 (by8 (n : Int) (4 * p + t)))) (w.heap.size + 2) (b32 (bx (n : Int) (4 * p + t + 1))) 24 := (b2.setCell (4 * p + t) _).to (b32_set _ _ _ _ (fun j _ => bx_step _ _ _))
      have b0n := b0.setOther (show ¬ w.heap.size = w.heap.size + 2 by omega) (4 * p + t) (.int .u8 (by8 (n : Int) (4 * p + t)))
      have b1n := b1.setOther (show ¬ w.heap.size + 1 = w.heap.size + 2 by omega) (4 * p + t) (.int .u8 (by8 (n : Int) (4 * p + t)))
      have cn := c0.setNew (show w.heap.size ≤ w.heap.size + 2 by omega) (4 * p + t) (.int .u8 (by8 (n : Int) (4 * p + t)))
      clear b0 b1 b2 c0
      generalize hii : 4 * p + t = i at *
      clear hii
      go_wp2_with fail
      exact ⟨⟨i + 1, by omega, by go_num, b0n, b1n, b2n, cn⟩, by simp [intOf]; omega⟩
    · have h9 : i = 32 := by omega
      subst h9
      rw [b32_fe (n : Int) (bx (n : Int) 32) (fun j hj => if_pos hj)] at b2
      go_wp2_with (first | (refine wpList_load_row rfl 24 _ rfl (w.heap.size + 2) rfl 24 _ (0, 0) _ b2 Try.underlying24 rfl feInfo ?_) | (refine wpList_store_row rfl 24 _ _ rfl (w.heap.size + 1) _ rfl rfl 24 _ b1 feInfo rfl (feC_one _) ?_))
      exact bodyPost_ret (results_cell_row Try.results32 _ _ (w.heap.size + 1) 24 (feC (n : Int)) (0, 0) _ rfl (Blk.setRow b1 _) Try.underlying24 rfl feInfo) rfl ⟨rfl, c0.setRowNew (by omega) _⟩
end Go.Proofs.Ytledggdoehnlcaa
