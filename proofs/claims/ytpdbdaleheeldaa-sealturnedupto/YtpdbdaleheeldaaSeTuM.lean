/- SealTurned: eight; what the tag is taken of, put together with zeros between. -/
import Derived.Test.YtpdbdaleheeldaaSeK
import Derived.Test.YtpdbdaleheeldaaSeTk
import Derived.Test.YtpdbdaleheeldaaSeLo
set_option linter.unusedVariables false
set_option linter.unusedSimpArgs false
set_option linter.unnecessarySimpa false
namespace Go.Proofs.Ytpdbdaleheeldaa
open Go.RowKit

theorem Own.cat1 {w : World} {base : Nat} {v : Value} {n x : Nat} {f : Nat → Nat} (h : Own w base v (n + 1) (cat f n fun _ => x)) (e : f n = x) : Own w base v (n + 1) f := h.cong fun i hi => by
  unfold cat
  by_cases hi2 : i < n
  · rw [if_pos hi2]
  · rw [if_neg hi2, ← e, show i = n by omega]
/-- A number in eight bytes. -/
def e8 (n : Nat) (i : Nat) : Nat := n / 256 ^ i % 256
set_option maxHeartbeats 8000000 in
set_option maxRecDepth 100000 in
theorem eight_l (n : Nat) (hn : n ≤ 9223372036854775807) (w : World) :
    Calls Try.prog 16 #[.int .i64 (n : Int)] w fun e w' => CyQ w 8 (e8 n) e w' := by
  have HN : Hid (n ≤ 9223372036854775807) := hn
  obtain ⟨b0, hb0⟩ : ∃ x, w.heap.size = x := ⟨_, rfl⟩
  have HB0 : Hid (w.heap.size = b0) := hb0
  have hw0 : IntKind.u64.wrap (n : Int) = (n : Int) := by rw [IntKind.wrap_u64]; omega
  clear hn hb0
  go_enter Try.func16, Try.ntmps16
  go_wp2_with fail
  go_loopw [4, 3] (fun t4 t3 wr => ∃ i : Nat, i ≤ 8 ∧ t4 = .int .i64 (i : Int) ∧ Own wr b0 t3 i (e8 n) ∧ Chg w wr []) (fun t4 _ _ => (8 - intOf t4).toNat)
  case atStart => exact ⟨0, by omega, rfl, Own.nil _ _ _, Chg.refl _ _⟩
  case round =>
    obtain ⟨i, hi, rfl, o0, c0⟩ := hrel
    by_cases h8 : i < 8
    · have hI : (i : Int) < 8 := by omega
      have e1 : IntKind.i64.wrap ((i : Int) + 1) = (i : Int) + 1 := by rw [IntKind.wrap_i64]; omega
      have HI : Hid (i < 8) := h8
      obtain ⟨x, hx⟩ : ∃ x, e8 n i = x := ⟨_, rfl⟩
      have HX : Hid (e8 n i = x ∧ x < 256) := ⟨hx, by rw [← hx]; exact Nat.mod_lt _ (by decide)⟩
      have hw : IntKind.u64.wrap (8 * ((i : Nat) : Int)) = 8 * ((i : Nat) : Int) := by rw [IntKind.wrap_u64]; omega
      have hwi : IntKind.i64.wrap (8 * ((i : Nat) : Int)) = 8 * ((i : Nat) : Int) := by rw [IntKind.wrap_i64]; omega
      have htn : (8 * ((i : Nat) : Int)).toNat = 8 * i := by omega
      have hmi : min (8 * i) 64 = 8 * i := by omega
      have hv : ((n : Nat) : Int) / 2 ^ (8 * i) % 256 = ((x : Nat) : Int) := by
        rw [← hx]
        unfold e8
        rw [show (256 : Nat) = 2 ^ 8 from rfl, ← Nat.pow_mul]
        simp
      have hwu : IntKind.u8.wrap (((n : Nat) : Int) / 2 ^ (8 * i)) = ((x : Nat) : Int) := by rw [IntKind.wrap_u8]; exact hv
      have HS : Hid (b0 ≤ wr.heap.size) := by have := c0.size; have := HB0.out; show b0 ≤ wr.heap.size; omega
      clear h8 hi hx
      go_wp2_with (first
        | (refine append_zl rfl (.tmp 9) (.tmp 16) rfl b0 _ (.slice (some ⟨gx, 0, none⟩) 1 1) i 1 (e8 n) (fun _ => x) rfl rfl (o0.chg kx (by simp)) (BX.szn (fun _ _ => HX.out.2) (by decide)) (by have := HI.out; omega) (by have := HS.out; have := kx.size; omega) ?_; intro v' w2 O2 k2)
        | (refine bsl_x rfl (.tmp 15) rfl x rfl ?_; intro gx w1 hgx BX kx))
      have hob := (o0.chg kx (by simp)).ob_ge
      exact ⟨⟨i + 1, by have := HI.out; omega, by go_num, O2.cat1 HX.out.1, (c0.trans1 kx).trans k2 (fun y hy => Or.inr (by have := (hob y hy).1; have := HB0.out; omega))⟩, by simp [intOf]; have := HI.out; omega⟩
    · obtain rfl : i = 8 := by omega
      have hI : ¬ ((8 : Nat) : Int) < 8 := by omega
      clear h8 hi
      go_wp2_with fail
      go_ret
      exact ⟨_, rfl, by rw [HB0.out]; exact o0, c0⟩
theorem ln_e8 (n0 n1 i : Nat) (hi : i < 16) : ln n0 n1 i = if i < 8 then e8 n0 i else e8 n1 (i - 8) := by
  unfold ln pl e8
  by_cases h : i < 8
  · rw [if_neg (by omega), if_pos (by omega), if_pos h, Nat.sub_zero]
  · rw [if_pos (by omega), if_neg h]
/-- How many zeros fill n bytes up. -/
def zn (n : Nat) : Nat := (16 - n % 16) % 16
theorem zn_pd (n : Nat) : n + zn n = pd n := by unfold zn pd; omega
/-- What SealTurned puts together. -/
def tuF (n0 : Nat) (f0 : Nat → Nat) (n1 : Nat) (f1 : Nat → Nat) : Nat → Nat :=
  cat (cat (cat (cat (cat f0 n0 fun _ => 0) (pd n0) f1) (pd n0 + n1) fun _ => 0) (pd n0 + pd n1) (e8 n0)) (pd n0 + pd n1 + 8) (e8 n1)
theorem pd_ge (n : Nat) : n ≤ pd n ∧ pd n < n + 16 := by unfold pd; omega
theorem tuF_0 (n0 : Nat) (f0 : Nat → Nat) (n1 : Nat) (f1 : Nat → Nat) (i : Nat) (h : i < pd n0) : tuF n0 f0 n1 f1 i = fz n0 f0 i := by
  have := pd_ge n1
  unfold tuF cat fz
  rw [if_pos (by omega), if_pos (by omega), if_pos (by omega), if_pos h]
theorem tuF_1 (n0 : Nat) (f0 : Nat → Nat) (n1 : Nat) (f1 : Nat → Nat) (i : Nat) (h : i < pd n1) : tuF n0 f0 n1 f1 (pd n0 + i) = fz n1 f1 i := by
  have := pd_ge n1
  unfold tuF cat fz
  rw [if_pos (by omega), if_pos (by omega)]
  by_cases h2 : i < n1
  · rw [if_pos (by omega), if_neg (by omega), Nat.add_sub_cancel_left, if_pos h2]
  · rw [if_neg (by omega), if_neg h2]
theorem tuF_2 (n0 : Nat) (f0 : Nat → Nat) (n1 : Nat) (f1 : Nat → Nat) (i : Nat) (h : i < 16) : tuF n0 f0 n1 f1 (pd n0 + pd n1 + i) = ln n0 n1 i := by
  rw [ln_e8 _ _ _ h]
  unfold tuF cat
  by_cases h2 : i < 8
  · rw [if_pos (by omega), if_neg (by omega), if_pos h2, Nat.add_sub_cancel_left]
  · rw [if_neg (by omega), if_neg h2, show pd n0 + pd n1 + i - (pd n0 + pd n1 + 8) = i - 8 by omega]
theorem mac_tuF (k nn h : Nat → Nat) (n0 : Nat) (f0 : Nat → Nat) (n1 : Nat) (f1 : Nat → Nat) (hh : ∀ i, i < 32 → h i = bkB (st0 k 0 nn) i) :
    macB h (pd n0 + pd n1 + 8 + 8) (tuF n0 f0 n1 f1) = tagT k nn n0 f0 n1 f1 :=
  mac_tag k nn h (tuF n0 f0 n1 f1) n0 f0 n1 f1 hh (tuF_0 n0 f0 n1 f1) (tuF_1 n0 f0 n1 f1) (tuF_2 n0 f0 n1 f1)
theorem eqn_symm (n : Nat) (f g : Nat → Nat) : eqn n f g = eqn n g f := by
  have h1 := eqn_iff n f g
  have h2 := eqn_iff n g f
  cases e1 : eqn n f g <;> cases e2 : eqn n g f
  · rfl
  · rw [h1.2 (fun i hi => (h2.1 e2 i hi).symm)] at e1; exact e1.symm
  · rw [h2.2 (fun i hi => (h1.1 e1 i hi).symm)] at e2; exact e2
  · rfl
end Go.Proofs.Ytpdbdaleheeldaa
