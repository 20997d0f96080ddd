/- seal: tagger.takeFilled, newTagger. -/
import Derived.Test.YtnopkojpgemldaaSeV
set_option linter.unusedVariables false
set_option linter.unusedSimpArgs false
set_option linter.unnecessarySimpa false
namespace Go.Proofs.Ytnopkojpgemldaa
open Go.RowKit

/-- The sum behind k pieces of 16 of n bytes, the last one filled with 0. -/
def tks (R n : Nat) (f : Nat → Nat) (A : Nat) : Nat → Nat
  | 0 => A
  | k + 1 => tk (tks R n f A k) R (nle (fun i => f (16 * k + i)) (Nat.min (n - 16 * k) 16) + 256 ^ 16)
theorem take16_s (y A R : Nat) (s : Nat → Nat) (hR : R < 1361129467683753853853498429727072845824) (v : Value) (n : Nat) (f : Nat → Nat) (hn : n ≤ 16) (w : World) (H : Tg w y A R s) (hv : Sz w v n f) :
    Calls Try.prog 35 #[.pointer (some ⟨y, 0, none⟩), v, .int .i64 16] w fun e w' => e = .returned (.tuple #[]) ∧ Tg w' y (tk A R (nle f n + 256 ^ 16)) R s ∧ Chg w w' [y] := take_s y A R s hR v n 16 f hn (Nat.le_refl _) w H hv
def TI (w : World) (y R : Nat) (s : Nat → Nat) (n : Nat) (f : Nat → Nat) (A : Nat) (t1 : Value) (wr : World) : Prop :=
  ∃ (u q m : Nat) (po : Option Addr) (cc : Nat), (u + m = n ∧ t1 = .slice po m cc) ∧ (m ≤ cc ∧ cc ≤ 9223372036854775807) ∧ (u ≤ 16 * q ∧ 16 * q < u + 16) ∧
    (0 < m → u = 16 * q ∧ ∃ gs os, po = some ⟨gs, os, none⟩ ∧ ¬ gs = y ∧ Bs w gs os m (fun i => f (u + i))) ∧ Tg wr y (tks R n f A q) R s ∧ Chg w wr [y]
set_option maxHeartbeats 8000000 in
set_option maxRecDepth 100000 in
theorem takeFilled_s (y A R : Nat) (s : Nat → Nat) (hR : R < 1361129467683753853853498429727072845824) (v : Value) (n : Nat) (f : Nat → Nat) (w : World) (H : Tg w y A R s) (hv : Sz w v n f) (hz : Oz v [y]) :
    Calls Try.prog 34 #[.pointer (some ⟨y, 0, none⟩), v] w fun e w' => e = .returned (.tuple #[]) ∧ Tg w' y (tks R n f A ((n + 15) / 16)) R s ∧ Chg w w' [y] := by
  have HRR : Hid (R < 1361129467683753853853498429727072845824) := hR
  obtain ⟨p, c', rfl, h1, h2, h3⟩ := hv
  have H0 : Hid (TI w y R s n f A (.slice p n c') w) := by
    refine ⟨0, 0, n, p, c', ⟨by omega, rfl⟩, ⟨h1, h2⟩, ⟨by omega, by omega⟩, fun h0 => ?_, H, Chg.refl _ _⟩
    obtain ⟨gs, os, rfl, hb⟩ := h3 h0
    exact ⟨by omega, gs, os, rfl, fun e => hz gs os n c' h0 rfl (by simp [e]), by simpa using hb⟩
  clear h1 h2 h3 hz H hR
  go_enter Try.func34, Try.ntmps34
  go_wp2_with fail
  go_loopw [1] (fun t1 wr => TI w y R s n f A t1 wr) (fun t1 _ => slz t1)
  case atStart => exact H0.out
  case round =>
    clear H0
    obtain ⟨u, q, m, po, cc, ⟨hum, rfl⟩, ⟨hm1, hm2⟩, ⟨hq1, hq2⟩, hm, b0, c0⟩ := hrel
    by_cases h0 : 0 < m
    · obtain ⟨hu, gs, os, rfl, hne, hb⟩ := hm h0
      have hI : (0 : Int) < (m : Int) := by omega
      obtain ⟨r, hr⟩ : ∃ r, r = Nat.min m 16 := ⟨_, rfl⟩
      have HR : Hid (r = Nat.min m 16 ∧ r ≤ m ∧ r ≤ 16 ∧ 0 < r ∧ (r < m → r = 16)) := ⟨hr, by have e : r = min m 16 := hr; omega, by have e : r = min m 16 := hr; omega, by have e : r = min m 16 := hr; omega, by have e : r = min m 16 := hr; omega⟩
      have HM : Hid ((u + m = n ∧ u = 16 * q) ∧ m ≤ cc ∧ cc ≤ 9223372036854775807) := ⟨⟨hum, hu⟩, hm1, hm2⟩
      have HBs : Hid (Bs w gs os m (fun i => f (u + i)) ∧ ¬ gs = y) := ⟨hb, hne⟩
      have HTK : Hid (tks R n f A (q + 1) = tk (tks R n f A q) R (nle (fun i => f (u + i)) r + 256 ^ 16)) := by
        show tks R n f A (q + 1) = _
        rw [tks, hu, hr, show n - 16 * q = m by omega]
      have i1 : (r : Int) ≤ (m : Int) := by have := HR.out; omega
      have i2 : (m : Int) ≤ (cc : Int) := by omega
      have i3 : (r : Int) ≤ (cc : Int) := by omega
      clear hr hum hu hm1 hm2 hb hne hm h0 hq1 hq2
      go_wp2_with (refine min_w rfl (.tmp 9) (.const (.int .i64 16)) #[3, 3] rfl m 16 r rfl rfl HR.out.1 ?_)
      refine (take16_s y (tks R n f A q) R s HRR.out (.slice (some ⟨gs, os, none⟩) r cc) r (fun i => f (u + i)) (by have := HR.out; omega) wr b0 ⟨_, cc, rfl, by have := HR.out; have := HM.out; omega, HM.out.2.2, fun _ => ⟨gs, os, rfl, ?_⟩⟩).mono ?_
      · have hb := HBs.out.1.chg c0 (by have := HBs.out.2; simpa using this)
        exact ⟨hb.lt, fun i hi => hb.bd i (by have := HR.out; omega), fun i hi => hb.cell i (by have := HR.out; omega)⟩
      rintro e w2 ⟨rfl, b2, k2⟩
      rw [← HTK.out] at b2
      have hcr : cc = r ∨ ¬ cc = r := by omega
      rcases hcr with hcr | hcr
      all_goals
        go_wp2_with fail
        have hR := HR.out
        have hM := HM.out
        refine ⟨⟨u + r, q + 1, m - r, _, _, ⟨by omega, rfl⟩, ⟨by omega, by omega⟩, ⟨by omega, by omega⟩, fun h => ?_, b2, c0.trans1 k2⟩, ?_⟩
        · first
            | (exfalso; omega)
            | (refine ⟨by have := hR.2.2.2.2 (by omega); omega, gs, os + r, rfl, HBs.out.2, ?_⟩
               have hb := HBs.out.1.sub r (m - r) (by omega)
               exact ⟨hb.lt, fun j hj => by rw [Nat.add_assoc]; exact hb.bd j hj, fun j hj => by rw [Nat.add_assoc u]; exact hb.cell j hj⟩)
        · show m - r < m
          omega
    · obtain rfl : m = 0 := by omega
      obtain rfl : u = n := by omega
      obtain rfl : q = (u + 15) / 16 := by omega
      go_wp2_with fail
      go_end0
      exact ⟨rfl, b0, c0⟩
end Go.Proofs.Ytnopkojpgemldaa
