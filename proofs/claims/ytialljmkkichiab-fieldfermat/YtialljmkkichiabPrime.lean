/- rimelaw01.prime and halved: the bytes of P - less, and halved. -/
import Derived.Test.YtialljmkkichiabPower
set_option linter.unusedVariables false
set_option linter.unusedSimpArgs false
set_option linter.unnecessarySimpa false
namespace Go.Proofs.Ytialljmkkichiab
open Go.RowKit N

/-- n bytes, by a function. -/
def fnC (n : Nat) (f : Nat → Int) : Array Value := ((List.range n).map fun i => Value.int .u8 (f i)).toArray
theorem fnC_size (n : Nat) (f : Nat → Int) : (fnC n f).size = n := by simp [fnC]
theorem fnC_get (n : Nat) (f : Nat → Int) (i : Nat) (h : i < n) : (fnC n f)[i]? = some (.int .u8 (f i)) := by simp [fnC, h]
theorem fnC_set (n : Nat) (f : Nat → Int) (k : Nat) (x : Int) (f' : Nat → Int) (h : ∀ i, i < n → f' i = if i = k then x else f i) : (fnC n f).setIfInBounds k (.int .u8 x) = fnC n f' := by
  apply Array.ext_getElem?
  intro i
  rw [Array.getElem?_setIfInBounds]
  by_cases hi : i < n
  · rw [fnC_get n f' i hi, h i hi]
    by_cases hk : k = i
    · subst hk; simp [fnC_size, hi]
    · rw [if_neg hk, fnC_get n f i hi, if_neg (fun e => hk e.symm)]
  · have e1 : (fnC n f)[i]? = none := Array.getElem?_eq_none (by rw [fnC_size]; omega)
    have e2 : (fnC n f')[i]? = none := Array.getElem?_eq_none (by rw [fnC_size]; omega)
    rw [e1, e2]
    split
    · rw [if_neg (by rw [fnC_size]; omega)]
    · rfl

theorem mk32 (w : World) : (Instr.makeSlice 32 (.int .i64 32) (.int .i64 32)).run Try.prog w = .ok (.slice (some ⟨w.heap.size, 0, none⟩) 32 32) (w.alloc (.cells (fnC 32 fun _ => 0) 5)) := by kernel_rfl

theorem fill_step (i k : Nat) : (if i < k + 1 then (255 : Int) else 0) = if i = k then 255 else if i < k then 255 else 0 := by
  by_cases h : i = k
  · rw [if_pos h, if_pos (by omega)]
  · rw [if_neg h]
    by_cases h2 : i < k
    · rw [if_pos h2, if_pos (by omega)]
    · rw [if_neg h2, if_neg (by omega)]
theorem fill_end (i : Nat) (hi : i < 32) (less : Int) : (if i = 0 then 237 - less else if i = 31 then (127 : Int) else 255) = if i = 31 then 127 else if i = 0 then 237 - less else if i < 32 then 255 else 0 := by
  by_cases h : i = 0
  · subst h; simp
  · rw [if_neg h, if_neg h, if_pos hi]

set_option maxHeartbeats 4000000 in
set_option maxRecDepth 100000 in
theorem prime_s (less : Int) (h0 : 0 ≤ less) (h1 : less ≤ 237) (w : World) :
    Calls Try.prog 19 #[.int .u8 less] w fun e w' => ∃ g, e = .returned (.slice (some ⟨g, 0, none⟩) 32 32) ∧ w.heap.size ≤ g ∧ Blk w' g (fnC 32 fun i => if i = 0 then 237 - less else if i = 31 then 127 else 255) 5 ∧ Chg w w' [] := by
  have hmk := mk32
  have B0 := Blk.new w (fnC 32 fun _ => 0) 5
  have C0 := (Chg.refl w []).alloc (.cells (fnC 32 fun _ => 0) 5)
  go_enter Try.func19, Try.ntmps19
  go_wp2_with fail
  generalize w.alloc (.cells (fnC 32 fun _ => 0) 5) = v0 at *
  clear hmk
  go_loopw [4] (fun t wr => ∃ k : Nat, k ≤ 32 ∧ t = .int .i64 k ∧ Blk wr w.heap.size (fnC 32 fun i => if i < k then 255 else 0) 5 ∧ Chg w wr []) (fun t _ => 32 - (intOf t).toNat)
  case atStart => exact ⟨0, by omega, rfl, B0, C0⟩
  case round =>
    obtain ⟨k, hk, rfl, b0, c0⟩ := hrel
    by_cases hlt : k < 32
    · have ck : wr.cell? ⟨w.heap.size, k, none⟩ = some (.int .u8 (if k < k then 255 else 0)) := (b0.cell k).trans (fnC_get 32 _ k hlt)
      have fk := b0.frozen k
      have bn : Blk (wr.setCell ⟨w.heap.size, k, none⟩ (.int .u8 255)) w.heap.size (fnC 32 fun i => if i < k + 1 then 255 else 0) 5 :=
        (b0.setCell k (.int .u8 255)).to (fnC_set 32 _ k 255 _ (fun i _ => fill_step i k))
      have cn : Chg w (wr.setCell ⟨w.heap.size, k, none⟩ (.int .u8 255)) [] := c0.new (Chg.of (gb_set (gb_refl wr _) k _)) (Nat.le_refl _)
      clear b0 c0
      go_wp2_with fail
      go_roundw
      case rel => exact ⟨k + 1, by omega, by go_num, bn, cn⟩
      case measure => simp [intOf]; omega
    · have hk2 : k = 32 := by omega
      subst hk2
      clear hlt hk
      have c0' : wr.cell? ⟨w.heap.size, 0, none⟩ = some (.int .u8 255) := (b0.cell 0).trans (fnC_get 32 _ 0 (by omega))
      have c31 : wr.cell? ⟨w.heap.size, 31, none⟩ = some (.int .u8 255) := (b0.cell 31).trans (fnC_get 32 _ 31 (by omega))
      have f0' := b0.frozen 0
      have f31 := b0.frozen 31
      have bn : Blk ((wr.setCell ⟨w.heap.size, 0, none⟩ (.int .u8 (237 - less))).setCell ⟨w.heap.size, 31, none⟩ (.int .u8 127)) w.heap.size (fnC 32 fun i => if i = 0 then 237 - less else if i = 31 then 127 else 255) 5 :=
        ((b0.setCell 0 (.int .u8 (237 - less))).setCell 31 (.int .u8 127)).to (by
          rw [fnC_set 32 _ 0 (237 - less) (fun i => if i = 0 then 237 - less else if i < 32 then 255 else 0) (fun i _ => rfl)]
          exact fnC_set 32 _ 31 127 _ (fun i hi => fill_end i hi less))
      have cn : Chg w ((wr.setCell ⟨w.heap.size, 0, none⟩ (.int .u8 (237 - less))).setCell ⟨w.heap.size, 31, none⟩ (.int .u8 127)) [] := (c0.new (Chg.of (gb_set (gb_refl wr _) 0 _)) (Nat.le_refl _)).new (Chg.of (gb_set (gb_refl _ _) 31 _)) (Nat.le_refl _)
      go_wp2
      go_ret
      exact ⟨w.heap.size, rfl, Nat.le_refl _, bn, cn⟩

/-- A byte of the half. -/
def hv (f : Nat → Int) (i : Nat) : Int := if i + 1 < 32 then f i / 2 + f (i + 1) % 2 * 128 else f i / 2
theorem or128 (x y : Int) (hx : 0 ≤ x) (hx1 : x < 256) : bits .or .u8 (x / 2) (y % 2 * 128) = x / 2 + y % 2 * 128 := by
  obtain ⟨a, ha⟩ := Int.eq_ofNat_of_zero_le (show 0 ≤ x / 2 by omega)
  obtain ⟨b, hb⟩ := Int.eq_ofNat_of_zero_le (show 0 ≤ y % 2 * 128 by omega)
  have h1 : a < 128 := by omega
  have h2 : b % 2 ^ 7 = 0 := by omega
  have h3 : b < 256 := by omega
  rw [ha, hb, u8_or_nat a b (by omega) h3, Nat.or_comm, nat_join 7 b a h2 (by omega)]
  omega
theorem wrap128 (y : Int) : IntKind.u8.wrap (y * 128) = y % 2 * 128 := by rw [IntKind.wrap_u8']; omega
theorem half_step (f : Nat → Int) (k i : Nat) (x : Int) (hx : x = hv f k) : (if i < k + 1 then hv f i else 0) = if i = k then x else if i < k then hv f i else 0 := by
  by_cases h : i = k
  · subst h; rw [if_pos (by omega), if_pos rfl, hx]
  · rw [if_neg h]
    by_cases h2 : i < k
    · rw [if_pos h2, if_pos (by omega)]
    · rw [if_neg h2, if_neg (by omega)]
theorem fnC_set2 (n : Nat) (f : Nat → Int) (k : Nat) (x y : Int) (f' : Nat → Int) (h : ∀ i, i < n → f' i = if i = k then y else f i) : ((fnC n f).setIfInBounds k (.int .u8 x)).setIfInBounds k (.int .u8 y) = fnC n f' := by
  rw [fnC_set n f k x (fun i => if i = k then x else f i) (fun i _ => rfl)]
  exact fnC_set n _ k y f' (fun i hi => by rw [h i hi]; by_cases e : i = k <;> simp [e])

set_option maxHeartbeats 4000000 in
set_option maxRecDepth 100000 in
theorem halved_s (g : Nat) (f : Nat → Int) (hf : ∀ i, i < 32 → 0 ≤ f i ∧ f i < 256) (w : World) (hb : Blk w g (fnC 32 f) 5) :
    Calls Try.prog 18 #[.slice (some ⟨g, 0, none⟩) 32 32] w fun e w' => ∃ h, e = .returned (.slice (some ⟨h, 0, none⟩) 32 32) ∧ w.heap.size ≤ h ∧ Blk w' h (fnC 32 (hv f)) 5 ∧ Chg w w' [] := by
  have hmk := mk32
  have hgl := hb.lt
  have B0 := Blk.new w (fnC 32 fun _ => 0) 5
  have B1 := hb.alloc (.cells (fnC 32 fun _ => 0) 5)
  have C0 := (Chg.refl w []).alloc (.cells (fnC 32 fun _ => 0) 5)
  clear hb
  go_enter Try.func18, Try.ntmps18
  go_wp2_with fail
  generalize w.alloc (.cells (fnC 32 fun _ => 0) 5) = v0 at *
  clear hmk
  go_loopw [4] (fun t wr => ∃ k : Nat, k ≤ 32 ∧ t = .int .i64 k ∧ Blk wr w.heap.size (fnC 32 fun i => if i < k then hv f i else 0) 5 ∧ Blk wr g (fnC 32 f) 5 ∧ Chg w wr []) (fun t _ => 32 - (intOf t).toNat)
  case atStart => exact ⟨0, by omega, rfl, B0, B1, C0⟩
  case round =>
    obtain ⟨k, hk, rfl, b0, b1, c0⟩ := hrel
    clear B0 B1 C0
    have gne : ¬ g = w.heap.size := by omega
    have hne : ¬ w.heap.size = g := by omega
    by_cases hlt : k < 32
    · have ck : wr.cell? ⟨w.heap.size, k, none⟩ = some (.int .u8 (if k < k then hv f k else 0)) := (b0.cell k).trans (fnC_get 32 _ k hlt)
      have fk := b0.frozen k
      have dk : wr.cell? ⟨g, k, none⟩ = some (.int .u8 (f k)) := (b1.cell k).trans (fnC_get 32 _ k hlt)
      obtain ⟨l0, u0⟩ := hf k hlt
      by_cases hl1 : k + 1 < 32
      · have dk1 : wr.cell? ⟨g, k + 1, none⟩ = some (.int .u8 (f (k + 1))) := (b1.cell (k + 1)).trans (fnC_get 32 _ (k + 1) hl1)
        have m1 := wrap128 (f (k + 1))
        have m2 := or128 (f k) (f (k + 1)) l0 u0
        have lI : ((k : Int) + 1 < 32) := by omega
        have B2 := (b0.setCell k (.int .u8 (f k / 2))).setCell k (.int .u8 (f k / 2 + f (k + 1) % 2 * 128))
        have bn := B2.to (fnC_set2 32 _ k (f k / 2) (f k / 2 + f (k + 1) % 2 * 128) (fun i => if i < k + 1 then hv f i else 0) (fun i _ => half_step f k i _ (by unfold hv; rw [if_pos hl1])))
        have b1n := (b1.setOther gne k (.int .u8 (f k / 2))).setOther gne k (.int .u8 (f k / 2 + f (k + 1) % 2 * 128))
        have cn := (c0.new (Chg.of (gb_set (gb_refl wr _) k (.int .u8 (f k / 2)))) (Nat.le_refl _)).new (Chg.of (gb_set (gb_refl _ _) k (.int .u8 (f k / 2 + f (k + 1) % 2 * 128)))) (Nat.le_refl _)
        clear B2 b0 b1 c0
        go_wp2_with fail
        go_region
        go_wp2_with fail
        exact ⟨⟨k + 1, by omega, by go_num, bn.drew, b1n.drew, cn.drew⟩, by simp [intOf]; omega⟩
      · have hk3 : k = 31 := by omega
        subst hk3
        have bn := (b0.setCell 31 (.int .u8 (f 31 / 2))).to (fnC_set 32 _ 31 (f 31 / 2) (fun i => if i < 31 + 1 then hv f i else 0) (fun i _ => half_step f 31 i _ (by unfold hv; rw [if_neg (by omega)])))
        have b1n := b1.setOther gne 31 (.int .u8 (f 31 / 2))
        have cn := c0.new (Chg.of (gb_set (gb_refl wr _) 31 (.int .u8 (f 31 / 2)))) (Nat.le_refl _)
        clear b0 b1 c0
        go_wp2_with fail
        exact ⟨⟨31 + 1, by omega, by go_num, bn, b1n, cn⟩, by simp [intOf]⟩
    · have hk2 : k = 32 := by omega
      subst hk2
      clear hlt hk
      go_wp2
      go_ret
      refine ⟨w.heap.size, rfl, Nat.le_refl _, b0.to ?_, c0⟩
      apply Array.ext_getElem?
      intro i
      by_cases hi : i < 32
      · rw [fnC_get 32 _ i hi, fnC_get 32 _ i hi, if_pos hi]
      · rw [Array.getElem?_eq_none (by rw [fnC_size]; omega), Array.getElem?_eq_none (by rw [fnC_size]; omega)]
end Go.Proofs.Ytialljmkkichiab
