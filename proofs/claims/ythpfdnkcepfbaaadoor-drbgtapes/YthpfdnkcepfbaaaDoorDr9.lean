/- drbg: Reseed, Left of a generator. -/
import Derived.Test.YthpfdnkcepfbaaaDoorDr8
set_option linter.unusedVariables false
set_option linter.unusedSimpArgs false
set_option linter.unnecessarySimpa false
namespace Go.Proofs.YthpfdnkcepfbaaaDoor
open Go.RowKit

set_option maxHeartbeats 4000000 in
set_option maxRecDepth 100000 in
theorem Left_s (g : Nat) (K V : Nat → Nat) (d : Nat) (hd : d ≤ 4096) (w : World) (B : Blk w g (gC K V d) 141) : Calls Tryd.prog 28 #[.pointer (some ⟨g, 0, none⟩)] w fun e w' => e = .returned (.int .i64 (4096 - (d : Int))) ∧ w' = w := by
  have cm := (B.cell 129).trans (gC_m K V d)
  have cd := (B.cell 128).trans (gC_d K V d)
  have e9 : IntKind.i64.wrap (4096 - (d : Int)) = 4096 - (d : Int) := by rw [IntKind.wrap_i64]; omega
  clear B hd
  go_enter Tryd.func28, Tryd.ntmps28
  go_wp2_with fail
  go_ret
  exact ⟨rfl, rfl⟩
set_option maxHeartbeats 4000000 in
set_option maxRecDepth 100000 in
theorem Left_nil (w : World) : Calls Tryd.prog 28 #[.pointer none] w fun e w' => e = .returned (.int .i64 0) ∧ w' = w := by
  go_enter Tryd.func28, Tryd.ntmps28
  go_wp2_with fail
  go_ret
  exact ⟨rfl, rfl⟩
set_option maxHeartbeats 4000000 in
set_option maxRecDepth 100000 in
theorem Reseed_nil (a b : Value) (w : World) : Calls Tryd.prog 24 #[.pointer none, a, b] w fun e w' => e = .returned (.int .i64 2) ∧ w' = w := by
  go_enter Tryd.func24, Tryd.ntmps24
  go_wp2_with fail
  go_ret
  exact ⟨rfl, rfl⟩
set_option maxHeartbeats 4000000 in
set_option maxRecDepth 100000 in
theorem Reseed_no (g : Nat) (K V : Nat → Nat) (d : Nat) (v0 v1 : Value) (n0 : Nat) (f0 : Nat → Nat) (w : World) (B : Blk w g (gC K V d) 141) (h0 : Se w v0 n0 f0) (hn : n0 < 32) : Calls Tryd.prog 24 #[.pointer (some ⟨g, 0, none⟩), v0, v1] w fun e w' => e = .returned (.int .i64 111) ∧ w' = w := by
  have cm := (B.cell 129).trans (gC_m K V d)
  obtain ⟨p, c, rfl⟩ := h0.form
  have hI : (n0 : Int) < 32 := by omega
  clear B h0
  go_enter Tryd.func24, Tryd.ntmps24
  go_wp2_with fail
  go_ret
  exact ⟨rfl, rfl⟩
set_option maxHeartbeats 8000000 in
set_option maxRecDepth 100000 in
theorem Reseed_ok (g : Nat) (K V : Nat → Nat) (d : Nat) (v0 v1 : Value) (n0 n1 : Nat) (f0 f1 : Nat → Nat) (w : World) (hG : Gl w) (hg : 2 ≤ g) (hK : ∀ i, i < 64 → K i < 256) (hV : ∀ i, i < 64 → V i < 256) (B : Blk w g (gC K V d) 141) (h0 : SeO g w v0 n0 f0) (h1 : SeO g w v1 n1 f1) (hn : 32 ≤ n0) (hN : n0 + n1 < 9223372036854775808) :
    Calls Tryd.prog 24 #[.pointer (some ⟨g, 0, none⟩), v0, v1] w fun e w' => e = .returned (.int .i64 0) ∧ Chg w w' [g] ∧ Blk w' g (gC (s2K K V (n0 + n1) (cat f0 n0 f1)) (s2V K V (n0 + n1) (cat f0 n0 f1)) 0) 141 := by
  have cm := (B.cell 129).trans (gC_m K V d)
  have HS : Hid (SeO g w v0 n0 f0 ∧ SeO g w v1 n1 f1 ∧ n0 + n1 < 9223372036854775808) := ⟨h0, h1, hN⟩
  obtain ⟨pa, ca, rfl⟩ := h0.se.form
  obtain ⟨pb, cb, rfl⟩ := h1.se.form
  have hI : ¬ (n0 : Int) < 32 := by omega
  have HG : Hid (Gl w ∧ 2 ≤ g ∧ (∀ i, i < 64 → K i < 256) ∧ (∀ i, i < 64 → V i < 256)) := ⟨hG, hg, hK, hV⟩
  have HB : Hid (Blk w g (gC K V d) 141) := B
  obtain ⟨KN, hKN⟩ : ∃ z, s2K K V (n0 + n1) (cat f0 n0 f1) = z := ⟨_, rfl⟩
  obtain ⟨VN, hVN⟩ : ∃ z, s2V K V (n0 + n1) (cat f0 n0 f1) = z := ⟨_, rfl⟩
  have HKN : Hid (s2K K V (n0 + n1) (cat f0 n0 f1) = KN) := hKN
  have HVN : Hid (s2V K V (n0 + n1) (cat f0 n0 f1) = VN) := hVN
  rw [hKN, hVN]
  clear h0 h1 hn hN hG hg hK hV B hKN hVN
  go_enter Tryd.func24, Tryd.ntmps24
  go_wp2_with fail
  have BL := Blk.new w #[.slice pa n0 ca, .slice pb n1 cb] 22
  have k3 := (Chg.refl w []).alloc (.cells #[.slice pa n0 ca, .slice pb n1 cb] 22)
  have q0 := HS.out.1.chg (k3.wide (l := [g]))
  have q1 := HS.out.2.1.chg (k3.wide (l := [g]))
  have hne : ¬ w.heap.size = g := by have := HB.out.lt; omega
  refine (stirIn_s g K V d _ 2 _ _ _ _ (HG.out.1.chg k3 (by simp) (by simp)) HG.out.2.1 HG.out.2.2.1 HG.out.2.2.2 (HB.out.chg k3 (by simp)) (Pq.mk2 BL q0 q1 hne) (by omega) (by omega) (by rw [cN_2]; exact HS.out.2.2)).mono ?_
  rintro e w4 ⟨rfl, k4, B4⟩
  rw [cN_2, cF_2, HKN.out, HVN.out] at B4
  have K4 := (k3.wide (l := [g])).trans1 k4
  have cd := (B4.cell 128).trans (gC_d KN VN d)
  have fd := B4.frozen 128
  have B7 := (B4.setCell 128 (.int .i64 ((0 : Nat) : Int))).to (gC_setd KN VN d 0)
  have K7 := K4.setIn (k := g) (by simp) 128 (.int .i64 ((0 : Nat) : Int))
  clear BL k3 q0 q1 hne k4 B4 K4 cm
  go_wp2_with fail
  go_ret
  exact ⟨rfl, K7, B7⟩
end Go.Proofs.YthpfdnkcepfbaaaDoor
