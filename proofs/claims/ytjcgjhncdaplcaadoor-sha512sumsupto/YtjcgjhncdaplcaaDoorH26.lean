/- A Hasher at any midstate: Write, State, Sum, Resume; rimeref03.More and Finish in the same words. -/
import Derived.Test.YtjcgjhncdaplcaaDoorH25
set_option linter.unusedVariables false
set_option linter.unusedSimpArgs false
set_option linter.unnecessarySimpa false
namespace Go.Proofs.YtjcgjhncdaplcaaDoor
open Go.RowKit

/-- The Hasher h stands at words S, with n bytes taken, of which the last n % 128 are T. -/
def Hm (w : World) (h : Nat) (S T : Nat → Nat) (n : Nat) : Prop :=
  ∃ t, Blk w h (hC S t n) 96 ∧ (∀ j, j < 128 → t j < 256) ∧ ∀ j, j < n % 128 → t j = T j
theorem Hm.chg {w w' : World} {h : Nat} {S T : Nat → Nat} {n : Nat} {ch : List Nat} (H : Hm w h S T n) (hc : Chg w w' ch) (ho : ¬ h ∈ ch) : Hm w' h S T n := by
  obtain ⟨t, h1, h2, h3⟩ := H
  exact ⟨t, h1.chg hc ho, h2, h3⟩
theorem Hm.lt {w : World} {h : Nat} {S T : Nat → Nat} {n : Nat} (H : Hm w h S T n) : h < w.heap.size := by
  obtain ⟨t, h1, _⟩ := H
  exact h1.lt
/-- The words behind m bytes f more. -/
def mw (S T : Nat → Nat) (n : Nat) (f : Nat → Nat) (m : Nat) : Nat → Nat := run KK S (cat T (n % 128) f) ((n % 128 + m) / 128)
/-- The tail behind m bytes f more. -/
def mt (T : Nat → Nat) (n : Nat) (f : Nat → Nat) (m : Nat) : Nat → Nat := fun i => cat T (n % 128) f (128 * ((n % 128 + m) / 128) + i)
theorem mw_U {S : Nat → Nat} (h : ∀ i, i < 8 → U (S i)) (T : Nat → Nat) (n : Nat) (f : Nat → Nat) (m : Nat) : ∀ i, i < 8 → U (mw S T n f m i) := run_lt h _
/-- The digest of a midstate. -/
def fh (S T : Nat → Nat) (n : Nat) : Nat → Nat := dig (run KK S (cat T (n % 128) (pdf n)) ((n % 128 + (17 + zr n)) / 128))
theorem cat_agree {t T f : Nat → Nat} {r : Nat} (h : ∀ j, j < r → t j = T j) : cat t r f = cat T r f := by
  funext i
  unfold cat
  by_cases hi : i < r
  · rw [if_pos hi, if_pos hi, h i hi]
  · rw [if_neg hi, if_neg hi]
theorem Hm.write {w : World} {h : Nat} {S T : Nat → Nat} {n m : Nat} {f : Nat → Nat} {v : Value} (hG : Gl w) (H : Hm w h S T n) (hS : ∀ i, i < 8 → U (S i)) (h2 : 2 ≤ h) (hv : Sl w v m f) (ho : Off v [h]) (hn : n + m < 18446744073709551616) :
    Calls Tryd.prog 28 #[.pointer (some ⟨h, 0, none⟩), v] w fun e w' => e = .returned (.tuple #[]) ∧ Chg w w' [h] ∧ Hm w' h (mw S T n f m) (mt T n f m) (n + m) := by
  obtain ⟨t, B, ht1, ht2⟩ := H
  have hcat : cat t (n % 128) f = cat T (n % 128) f := cat_agree ht2
  rcases hv with ⟨rfl, rfl⟩ | ⟨gb, o, cap, rfl, h1, h3, hb⟩
  · refine (Write_nil h n _ t w (show U n by unfold U; omega) B).mono ?_
    rintro e w' ⟨rfl, k, B'⟩
    have e0 : (n % 128 + 0) / 128 = 0 := by omega
    refine ⟨rfl, k, t, ?_, ht1, fun j hj => ?_⟩
    · unfold mw
      rw [e0]
      exact B'
    · unfold mt cat
      rw [e0, if_pos (by omega), ht2 j (by omega), Nat.mul_zero, Nat.zero_add]
  · refine (Write_g h gb o m cap n KK S t f w hG.kc hS ht1 (show U n by unfold U; omega) h1 h3 hb B (by omega) (fun e => ho gb o m cap rfl (by simp [e]))).mono ?_
    rintro e w' ⟨rfl, k, t', a1, a2, B'⟩
    rw [hcat, Nat.mod_eq_of_lt hn] at B'
    refine ⟨rfl, k, t', B', a2, fun j hj => ?_⟩
    rw [a1 j (by omega), hcat]
    rfl
theorem Hm.state {w : World} {h : Nat} {S T : Nat → Nat} {n : Nat} (H : Hm w h S T n) (hn : n < 18446744073709551616) :
    Calls Tryd.prog 34 #[.pointer (some ⟨h, 0, none⟩)] w fun e w' => ∃ z, e = .returned (.agg (mC S (.slice (some ⟨z, 0, none⟩) (n % 128) (n % 128)) n)) ∧ w.heap.size ≤ z ∧ Sl w' (.slice (some ⟨z, 0, none⟩) (n % 128) (n % 128)) (n % 128) T ∧ Blk w' z (yC (n % 128) T) 5 ∧ Chg w w' [] := by
  obtain ⟨t, B, ht1, ht2⟩ := H
  refine (State_s h n S t w hn ht1 B).mono ?_
  rintro e w' ⟨z, rfl, hz, k, Bz⟩
  have Bz2 : Blk w' z (yC (n % 128) T) 5 := Bz.to (yC_eq ht2)
  refine ⟨z, rfl, hz, Or.inr ⟨z, 0, n % 128, rfl, Nat.le_refl _, by omega, Bz.lt, fun i hi => ?_, fun i hi => ?_⟩, Bz2, k⟩
  · rw [← ht2 i hi]; exact ht1 i (by omega)
  · rw [Nat.zero_add, Bz2.cell, yC_get _ _ _ hi]
theorem Hm.sum {w : World} {h : Nat} {S T : Nat → Nat} {n : Nat} (hG : Gl w) (H : Hm w h S T n) (hS : ∀ i, i < 8 → U (S i)) (hn : n < 18446744073709551616) :
    Calls Tryd.prog 30 #[.pointer (some ⟨h, 0, none⟩)] w fun e w' => e = .returned (.agg (yC 64 (fh S T n))) ∧ Chg w w' [] := by
  obtain ⟨t, B, ht1, ht2⟩ := H
  have h0 := Sum_raw h n S t w hG hn hS ht1 B
  unfold fin at h0
  rw [cat_agree ht2] at h0
  exact h0
theorem Resume_m (n : Nat) (s t : Nat → Nat) (p : Option Addr) (c : Nat) (w : World) (hn : n < 2305843009213693952) (hv : Sl w (.slice p (n % 128) c) (n % 128) t) :
    Calls Tryd.prog 36 #[.agg (mC s (.slice p (n % 128) c) n)] w fun e w' => ∃ h, e = .returned (.tuple #[.pointer (some ⟨h, 0, none⟩), .int .i64 0]) ∧ w.heap.size ≤ h ∧ Hm w' h s t n ∧ Chg w w' [] := by
  refine (Resume_s n s t p c w hn hv).mono ?_
  rintro e w' ⟨h, t', rfl, hh, k, h1, h2, B⟩
  exact ⟨h, rfl, hh, ⟨t', B, h1, h2⟩, k⟩
theorem More_m (S T f : Nat → Nat) (n m : Nat) (v b : Value) (w : World) (hs : ∀ i, i < 8 → U (S i)) (hm : m ≤ 140737488355328) (hn2 : n + m < 18446744073709551616) (hv : Sl w v (n % 128) T) (hb : Sl w b m f) :
    Calls Tryd.prog 29 #[.agg (mC S v n), b] w fun e w' => ∃ tv, e = .returned (.agg (mC (mw S T n f m) tv (n + m))) ∧ Sl w' tv ((n + m) % 128) (mt T n f m) ∧ Chg w w' [] := by
  refine (More_r S T f (n % 128) m n (n + m) v b w hs (by omega) rfl hn2 hv hb).mono ?_
  rintro e w' ⟨tv, rfl, hS, k⟩
  refine ⟨tv, rfl, ?_, k⟩
  rw [show (n + m) % 128 = (n % 128 + m) % 128 by omega]
  exact hS
theorem Finish_m (S T : Nat → Nat) (n : Nat) (v : Value) (w : World) (hs : ∀ i, i < 8 → U (S i)) (hn : n < 2305843009213693952) (hv : Sl w v (n % 128) T) :
    Calls Tryd.prog 31 #[.agg (vC 8 S), v, .int .u64 (n : Int)] w fun e w' => e = .returned (.agg (yC 64 (fh S T n))) ∧ Chg w w' [] :=
  Finish_r S T (n % 128) n v w hs hn (by omega) hv
theorem mC_setT (s : Nat → Nat) (v r : Value) (n : Nat) : (mC s v n).setIfInBounds 8 r = mC s r n := by
  unfold mC
  rw [Array.setIfInBounds_append_right (by rw [vC_size]; omega), vC_size]
  rfl
end Go.Proofs.YtjcgjhncdaplcaaDoor
