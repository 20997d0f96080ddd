/- drbg: refusal, Draw, Reseed, Left of a generator. -/
import Derived.Test.YthpfdnkcepfbaaaDoorDr6
import Derived.Test.YthpfdnkcepfbaaaDoorDr7
set_option linter.unusedVariables false
set_option linter.unusedSimpArgs false
set_option linter.unnecessarySimpa false
namespace Go.Proofs.YthpfdnkcepfbaaaDoor
open Go.RowKit

/-- Why n bytes can't be drawn, or 0. -/
def rfs (n : Int) (d : Nat) : Int := if n < 0 then 1 else if 65536 < n then 113 else if d = 4096 then 112 else 0
set_option maxHeartbeats 4000000 in
set_option maxRecDepth 100000 in
theorem refusal_nil (n : Int) (w : World) : Calls Tryd.prog 66 #[.pointer none, .int .i64 n] w fun e w' => e = .returned (.int .i64 2) ∧ w' = w := by
  go_enter Tryd.func66, Tryd.ntmps66
  go_wp2_with fail
  go_ret
  exact ⟨rfl, rfl⟩
set_option maxHeartbeats 4000000 in
set_option maxRecDepth 100000 in
theorem refusal_s (g : Nat) (K V : Nat → Nat) (d : Nat) (n : Int) (w : World) (B : Blk w g (gC K V d) 141) : Calls Tryd.prog 66 #[.pointer (some ⟨g, 0, none⟩), .int .i64 n] w fun e w' => e = .returned (.int .i64 (rfs n d)) ∧ w' = w := by
  have cm := (B.cell 129).trans (gC_m K V d)
  have cd := (B.cell 128).trans (gC_d K V d)
  unfold rfs
  by_cases h1 : n < 0
  · rw [if_pos h1]
    go_enter Tryd.func66, Tryd.ntmps66
    go_wp2_with fail
    go_ret
    exact ⟨rfl, rfl⟩
  · rw [if_neg h1]
    by_cases h2 : 65536 < n
    · rw [if_pos h2]
      go_enter Tryd.func66, Tryd.ntmps66
      go_wp2_with fail
      go_ret
      exact ⟨rfl, rfl⟩
    · rw [if_neg h2]
      by_cases h3 : d = 4096
      · rw [if_pos h3]
        subst h3
        go_enter Tryd.func66, Tryd.ntmps66
        go_wp2_with fail
        go_ret
        exact ⟨rfl, rfl⟩
      · rw [if_neg h3]
        have h4 : ((d : Int) == 4096) = false := by simp; omega
        have h5 : ¬ (d : Int) = 4096 := by omega
        go_enter Tryd.func66, Tryd.ntmps66
        go_wp2_with fail
        go_ret
        exact ⟨rfl, rfl⟩
/-- V behind i steps. -/
def vs (K V : Nat → Nat) : Nat → (Nat → Nat)
  | 0 => V
  | i + 1 => mac 64 K 64 (vs K V i)
theorem vs_lt {K V : Nat → Nat} (h : ∀ j, j < 64 → V j < 256) (i : Nat) : ∀ j, j < 64 → vs K V i j < 256 := by
  cases i with
  | zero => exact h
  | succ i => intro j _; exact mac_lt _ _ _ _ _
/-- K and V behind what is stirred in ahead of a draw; what is drawn; K and V behind the draw. -/
def eK (K V : Nat → Nat) (m : Nat) (f : Nat → Nat) : Nat → Nat := if m = 0 then K else s2K K V m f
def eV (K V : Nat → Nat) (m : Nat) (f : Nat → Nat) : Nat → Nat := if m = 0 then V else s2V K V m f
def dO (K V : Nat → Nat) (m : Nat) (f : Nat → Nat) : Nat → Nat := jn fun i => vs (eK K V m f) (eV K V m f) (i + 1)
def dK (K V : Nat → Nat) (m : Nat) (f : Nat → Nat) (N : Nat) : Nat → Nat := s2K (eK K V m f) (vs (eK K V m f) (eV K V m f) ((N + 63) / 64)) m f
def dV (K V : Nat → Nat) (m : Nat) (f : Nat → Nat) (N : Nat) : Nat → Nat := s2V (eK K V m f) (vs (eK K V m f) (eV K V m f) ((N + 63) / 64)) m f
theorem dO_lt (K V : Nat → Nat) (m : Nat) (f : Nat → Nat) (j : Nat) : dO K V m f j < 256 := mac_lt _ _ _ _ _
theorem eK_lt {K V : Nat → Nat} (h : ∀ j, j < 64 → K j < 256) (m : Nat) (f : Nat → Nat) : ∀ j, j < 64 → eK K V m f j < 256 := by
  intro j hj; unfold eK; split
  · exact h j hj
  · exact s2K_lt _ _ _ _ _
theorem eV_lt {K V : Nat → Nat} (h : ∀ j, j < 64 → V j < 256) (m : Nat) (f : Nat → Nat) : ∀ j, j < 64 → eV K V m f j < 256 := by
  intro j hj; unfold eV; split
  · exact h j hj
  · exact s2V_lt _ _ _ _ _
theorem gC_setd (K V : Nat → Nat) (d e : Nat) : (gC K V d).setIfInBounds 128 (.int .i64 (e : Int)) = gC K V e := by
  apply Array.ext_getElem?
  intro i
  rw [Array.getElem?_setIfInBounds, gC_size, gC_at, gC_at]
  by_cases h : 128 = i
  · subst h; rw [if_pos rfl]; rfl
  · rw [if_neg h]
    by_cases h1 : i < 64
    · rw [if_pos h1, if_pos h1]
    · rw [if_neg h1, if_neg h1]
      by_cases h2 : i < 128
      · rw [if_pos h2, if_pos h2]
      · rw [if_neg h2, if_neg h2, if_neg (show ¬ i = 128 by omega), if_neg (show ¬ i = 128 by omega)]
set_option maxHeartbeats 4000000 in
set_option maxRecDepth 100000 in
theorem Draw_nil (n : Int) (ev : Value) (w : World) : Calls Tryd.prog 22 #[.pointer none, .int .i64 n, ev] w fun e w' => e = .returned (.tuple #[.slice none 0 0, .int .i64 2]) ∧ w' = w := by
  go_enter Tryd.func22, Tryd.ntmps22
  go_wp2_with fail
  refine (refusal_nil n w).mono ?_
  rintro e w1 ⟨rfl, rfl⟩
  go_wp2_with fail
  go_ret2
  exact ⟨rfl, rfl⟩
set_option maxHeartbeats 4000000 in
set_option maxRecDepth 100000 in
theorem Draw_no (g : Nat) (K V : Nat → Nat) (d : Nat) (n : Int) (ev : Value) (w : World) (B : Blk w g (gC K V d) 141) (hr : ¬ rfs n d = 0) : Calls Tryd.prog 22 #[.pointer (some ⟨g, 0, none⟩), .int .i64 n, ev] w fun e w' => e = .returned (.tuple #[.slice none 0 0, .int .i64 (rfs n d)]) ∧ w' = w := by
  have HB : Hid (Blk w g (gC K V d) 141) := B
  clear B
  have HR := refusal_s g K V d n w HB.out
  obtain ⟨r, hrE⟩ : ∃ r, rfs n d = r := ⟨_, rfl⟩
  rw [hrE] at hr HR ⊢
  have HRH : Hid (Calls Tryd.prog 66 #[.pointer (some ⟨g, 0, none⟩), .int .i64 n] w fun e w' => e = .returned (.int .i64 r) ∧ w' = w) := HR
  have h4 : (r == 0) = false := by simpa using hr
  clear HR hrE
  go_enter Tryd.func22, Tryd.ntmps22
  go_wp2_with fail
  refine HRH.out.mono ?_
  rintro e w1 ⟨rfl, rfl⟩
  go_wp2_with fail
  go_ret2
  exact ⟨rfl, rfl⟩
set_option maxHeartbeats 16000000 in
set_option maxRecDepth 100000 in
theorem Draw_ok (g : Nat) (K V : Nat → Nat) (d N : Nat) (ev : Value) (m : Nat) (f : Nat → Nat) (w : World) (hG : Gl w) (hg : 2 ≤ g) (hK : ∀ i, i < 64 → K i < 256) (hV : ∀ i, i < 64 → V i < 256) (BG0 : Blk w g (gC K V d) 141) (hev : SeO g w ev m f) (hm : m < 9223372036854775808) (hN : N ≤ 65536) (hd : d < 4096) :
    Calls Tryd.prog 22 #[.pointer (some ⟨g, 0, none⟩), .int .i64 (N : Int), ev] w fun e w' => ∃ ob, e = .returned (.tuple #[.slice (some ⟨ob, 0, none⟩) N N, .int .i64 0]) ∧ w.heap.size ≤ ob ∧ Blk w' ob (yC N (dO K V m f)) 5 ∧ Chg w w' [g] ∧ Blk w' g (gC (dK K V m f N) (dV K V m f N) (d + 1)) 141 := by
  obtain ⟨p, c, rfl⟩ := hev.se.form
  have HR := refusal_s g K V d (N : Int) w BG0
  rw [show rfs (N : Int) d = 0 by unfold rfs; rw [if_neg (by omega), if_neg (by omega), if_neg (by omega)]] at HR
  have HRH : Hid (Calls Tryd.prog 66 #[.pointer (some ⟨g, 0, none⟩), .int .i64 (N : Int)] w fun e w' => e = .returned (.int .i64 0) ∧ w' = w) := HR
  have HEV : Hid (SeO g w (.slice p m c) m f ∧ m < 9223372036854775808) := ⟨hev, hm⟩
  have HG : Hid (Gl w) := hG
  have HG01 : Hid (¬ 0 ∈ [g] ∧ ¬ 1 ∈ [g] ∧ 2 ≤ g) := ⟨by simp; omega, by simp; omega, hg⟩
  have HGL : Hid (g < w.heap.size) := BG0.lt
  have HN : Hid (N ≤ 65536 ∧ d < 4096) := ⟨hN, hd⟩
  have HK : Hid (∀ i, i < 64 → K i < 256) := hK
  have HV : Hid (∀ i, i < 64 → V i < 256) := hV
  have HEL : Hid (∀ i, i < 64 → eK K V m f i < 256) := eK_lt hK m f
  have HVL : Hid (∀ i, i < 64 → eV K V m f i < 256) := eV_lt hV m f
  have HEK : Hid (m = 0 → eK K V m f = K) := fun h => by unfold eK; rw [if_pos h]
  have HEV0 : Hid (m = 0 → eV K V m f = V) := fun h => by unfold eV; rw [if_pos h]
  have HEK1 : Hid (¬ m = 0 → s2K K V m f = eK K V m f) := fun h => by unfold eK; rw [if_neg h]
  have HEV1 : Hid (¬ m = 0 → s2V K V m f = eV K V m f) := fun h => by unfold eV; rw [if_neg h]
  have HO : Hid (jn (fun i => vs (eK K V m f) (eV K V m f) (i + 1)) = dO K V m f) := rfl
  have HDK : Hid (s2K (eK K V m f) (vs (eK K V m f) (eV K V m f) ((N + 63) / 64)) m f = dK K V m f N) := rfl
  have HDV : Hid (s2V (eK K V m f) (vs (eK K V m f) (eV K V m f) ((N + 63) / 64)) m f = dV K V m f N) := rfl
  obtain ⟨EK, hEK⟩ : ∃ z, eK K V m f = z := ⟨_, rfl⟩
  obtain ⟨EV, hEV⟩ : ∃ z, eV K V m f = z := ⟨_, rfl⟩
  obtain ⟨DO, hDO⟩ : ∃ z, dO K V m f = z := ⟨_, rfl⟩
  obtain ⟨DK, hDK⟩ : ∃ z, dK K V m f N = z := ⟨_, rfl⟩
  obtain ⟨DV, hDV⟩ : ∃ z, dV K V m f N = z := ⟨_, rfl⟩
  rw [hEK] at HEL HEK HEK1
  rw [hEV] at HVL HEV0 HEV1
  rw [hEK, hEV, hDO] at HO
  rw [hEK, hEV, hDK] at HDK
  rw [hEK, hEV, hDV] at HDV
  rw [hDO, hDK, hDV]
  have HB0 : Hid (Blk w g (gC K V d) 141) := BG0
  clear hEK hEV hDO hDK hDV HR hev hm hG hg hK hV hN hd BG0
  have hmf : ∀ (fn : Fn) (first cap : Array Value) (w : World), (Instr.makeFunc fn first cap).run Tryd.prog w = .ok (.func fn first cap) w := fun _ _ _ _ => rfl
  have hEnd : ∀ w1 : World, Blk w1 g (gC EK EV d) 141 → Chg w w1 [g] → Hid (∀ (w2 : World), True) := fun _ _ _ _ => trivial
  clear hEnd
  have e9 : IntKind.i64.wrap ((d : Int) + 1) = ((d + 1 : Nat) : Int) := by have := HN.out; rw [IntKind.wrap_i64]; omega
  go_enter Tryd.func22, Tryd.ntmps22
  go_wp2_with fail
  refine HRH.out.mono ?_
  rintro e w1 ⟨rfl, rfl⟩
  go_wp2_with fail
  refine (hasBytes_s p m c w1).mono ?_
  rintro e w2 ⟨rfl, rfl⟩
  clear HRH
  by_cases hz : m = 0
  · have hdz : decide (0 < m) = false := by subst hz; rfl
    have BG : Blk w2 g (gC EK EV d) 141 := by rw [HEK.out hz, HEV0.out hz]; exact HB0.out
    have HQ : Hid (∃ w3, w3 = w2 ∧ True) := ⟨w2, rfl, trivial⟩
    rw [hdz]
    clear hdz HEK1 HEV1 HEK HEV0 HQ HB0 hz
    go_wp2_with fail
    refine (joined_n g N HN.out.1 w2 (fun i => vs EK EV (i + 1)) (fun i j => mac_lt _ _ _ _ _) [g] (fun b hb => by simp at hb; subst hb; exact HGL.out) (fun ob i w' => g < ob ∧ Gl w' ∧ Blk w' g (gC EK (vs EK EV i) d) 141)
      (fun ob w' ho k => ⟨Nat.lt_of_lt_of_le HGL.out ho, HG.out.chg k (by simp) (by simp), BG.chg k (by simp)⟩)
      (fun ob i w' _ _ hp => (next_s g EK (vs EK EV i) d w' hp.2.1 HG01.out.2.2 HEL.out (vs_lt HVL.out i) hp.2.2).mono (by rintro e w'' ⟨rfl, k, B⟩; exact ⟨rfl, ⟨hp.1, hp.2.1.chg k HG01.out.1 HG01.out.2.1, B⟩, k⟩))
      (fun ob i a b l hp k hl => ⟨hp.1, hp.2.1.chg k (fun hx => by have := hl _ hx; have := hp.1; have := hp.2.2.lt; have := HG01.out.2.2; omega) (fun hx => by have := hl _ hx; have := hp.1; have := hp.2.2.lt; have := HG01.out.2.2; omega), hp.2.2.chg k (fun hx => by have := hl _ hx; have := hp.1; have := hp.2.2.lt; omega)⟩)).mono ?_
    rintro e w4 ⟨ob, rfl, hob, BO, ⟨_, G4, B4⟩, k4⟩
    rw [HO.out] at BO
    have HOB : Hid (w2.heap.size ≤ ob ∧ ¬ ob ∈ [g]) := ⟨hob, by have := HGL.out; simp; omega⟩
    have BL := Blk.new w4 #[.slice p m c] 22
    have k5 := (Chg.refl w4 []).alloc (.cells #[.slice p m c] 22)
    have SE := (HEV.out.1.chg k4).chg (k5.wide (l := [g]))
    have hne : ¬ w4.heap.size = g := by have := B4.lt; omega
    go_wp2_with fail
    refine (stirIn_s g EK (vs EK EV ((N + 63) / 64)) d _ 1 _ _ _ _ (G4.chg k5 (by simp) (by simp)) HG01.out.2.2 HEL.out (vs_lt HVL.out _) (B4.chg k5 (by simp)) (Pq.mk1 BL SE hne) (by omega) (by omega) (by rw [cN_1]; exact HEV.out.2)).mono ?_
    rintro e w6 ⟨rfl, k6, B6⟩
    rw [cN_1, cF_1, HDK.out, HDV.out] at B6
    have K6 : Chg w2 w6 [g] := (k4.trans k5 (by simp)).trans1 k6
    have BO6 := (BO.chg k5 (by simp)).chg k6 HOB.out.2
    have cd := (B6.cell 128).trans (gC_d DK DV d)
    have fd := B6.frozen 128
    have B7 := (B6.setCell 128 (.int .i64 ((d + 1 : Nat) : Int))).to (gC_setd DK DV d (d + 1))
    have K7 := K6.setIn (k := g) (by simp) 128 (.int .i64 ((d + 1 : Nat) : Int))
    have BO7 := BO6.setOther (show ob ≠ g by have := HOB.out.2; simpa using this) 128 (.int .i64 ((d + 1 : Nat) : Int))
    clear BL k5 SE hne k6 B4 G4 k4 BO BO6 K6 B6 hob
    go_wp2_with fail
    go_ret2
    exact ⟨ob, rfl, HOB.out.1, BO7, K7, B7⟩
  · have hdz : decide (0 < m) = true := by simp; omega
    have HQ1 := HEK1.out hz
    have HQ2 := HEV1.out hz
    have HQ : Hid (s2K K V m f = EK ∧ s2V K V m f = EV) := ⟨HQ1, HQ2⟩
    rw [hdz]
    clear hdz HEK1 HEV1 HEK HEV0 hz HQ1 HQ2
    go_wp2_with fail
    have BL0 := Blk.new w2 #[.slice p m c] 22
    have k0 := (Chg.refl w2 []).alloc (.cells #[.slice p m c] 22)
    have SE0 := HEV.out.1.chg (k0.wide (l := [g]))
    have hne0 : ¬ w2.heap.size = g := by have := HGL.out; omega
    refine (stirIn_s g K V d _ 1 _ _ _ _ (HG.out.chg k0 (by simp) (by simp)) HG01.out.2.2 HK.out HV.out (HB0.out.chg k0 (by simp)) (Pq.mk1 BL0 SE0 hne0) (by omega) (by omega) (by rw [cN_1]; exact HEV.out.2)).mono ?_
    rintro e w3 ⟨rfl, k3, BG⟩
    rw [cN_1, cF_1, HQ.out.1, HQ.out.2] at BG
    have K3 : Chg w2 w3 [g] := (k0.wide (l := [g])).trans1 k3
    have HS3 : Hid (w2.heap.size ≤ w3.heap.size ∧ g < w3.heap.size) := ⟨K3.size, BG.lt⟩
    have G3 := HG.out.chg K3 HG01.out.1 HG01.out.2.1
    clear BL0 k0 SE0 hne0 k3 HB0
    go_wp2_with fail
    refine (joined_n g N HN.out.1 w3 (fun i => vs EK EV (i + 1)) (fun i j => mac_lt _ _ _ _ _) [g] (fun b hb => by simp at hb; subst hb; exact HS3.out.2) (fun ob i w' => g < ob ∧ Gl w' ∧ Blk w' g (gC EK (vs EK EV i) d) 141)
      (fun ob w' ho k => ⟨Nat.lt_of_lt_of_le HS3.out.2 ho, G3.chg k (by simp) (by simp), BG.chg k (by simp)⟩)
      (fun ob i w' _ _ hp => (next_s g EK (vs EK EV i) d w' hp.2.1 HG01.out.2.2 HEL.out (vs_lt HVL.out i) hp.2.2).mono (by rintro e w'' ⟨rfl, k, B⟩; exact ⟨rfl, ⟨hp.1, hp.2.1.chg k HG01.out.1 HG01.out.2.1, B⟩, k⟩))
      (fun ob i a b l hp k hl => ⟨hp.1, hp.2.1.chg k (fun hx => by have := hl _ hx; have := hp.1; have := hp.2.2.lt; have := HG01.out.2.2; omega) (fun hx => by have := hl _ hx; have := hp.1; have := hp.2.2.lt; have := HG01.out.2.2; omega), hp.2.2.chg k (fun hx => by have := hl _ hx; have := hp.1; have := hp.2.2.lt; omega)⟩)).mono ?_
    rintro e w4 ⟨ob, rfl, hob, BO, ⟨_, G4, B4⟩, k4⟩
    rw [HO.out] at BO
    have HOB : Hid (w2.heap.size ≤ ob ∧ ¬ ob ∈ [g]) := ⟨Nat.le_trans HS3.out.1 hob, by have := HS3.out; simp; omega⟩
    have BL := Blk.new w4 #[.slice p m c] 22
    have k5 := (Chg.refl w4 []).alloc (.cells #[.slice p m c] 22)
    have K4 := K3.trans1 k4
    have SE := (HEV.out.1.chg K4).chg (k5.wide (l := [g]))
    have hne : ¬ w4.heap.size = g := by have := B4.lt; omega
    go_wp2_with fail
    refine (stirIn_s g EK (vs EK EV ((N + 63) / 64)) d _ 1 _ _ _ _ (G4.chg k5 (by simp) (by simp)) HG01.out.2.2 HEL.out (vs_lt HVL.out _) (B4.chg k5 (by simp)) (Pq.mk1 BL SE hne) (by omega) (by omega) (by rw [cN_1]; exact HEV.out.2)).mono ?_
    rintro e w6 ⟨rfl, k6, B6⟩
    rw [cN_1, cF_1, HDK.out, HDV.out] at B6
    have K6 : Chg w2 w6 [g] := (K4.trans k5 (by simp)).trans1 k6
    have BO6 := (BO.chg k5 (by simp)).chg k6 HOB.out.2
    have cd := (B6.cell 128).trans (gC_d DK DV d)
    have fd := B6.frozen 128
    have B7 := (B6.setCell 128 (.int .i64 ((d + 1 : Nat) : Int))).to (gC_setd DK DV d (d + 1))
    have K7 := K6.setIn (k := g) (by simp) 128 (.int .i64 ((d + 1 : Nat) : Int))
    have BO7 := BO6.setOther (show ob ≠ g by have := HOB.out.2; simpa using this) 128 (.int .i64 ((d + 1 : Nat) : Int))
    clear BL k5 SE hne k6 B4 G4 k4 BO BO6 K6 B6 hob K4 K3 G3 BG
    go_wp2_with fail
    go_ret2
    exact ⟨ob, rfl, HOB.out.1, BO7, K7, B7⟩
end Go.Proofs.YthpfdnkcepfbaaaDoor
