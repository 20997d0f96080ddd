/- drbg: hasBytes, slices.ContainsFunc with it, pool.stirIn. -/
import Derived.Test.YthpfdnkcepfbaaaDoorDr4
set_option linter.unusedVariables false
set_option linter.unusedSimpArgs false
set_option linter.unnecessarySimpa false
namespace Go.Proofs.YthpfdnkcepfbaaaDoor
open Go.RowKit

set_option maxHeartbeats 4000000 in
set_option maxRecDepth 100000 in
theorem hasBytes_s (p : Option Addr) (n c : Nat) (w : World) : Calls Tryd.prog 67 #[.slice p n c] w fun e w' => e = .returned (.bool (decide (0 < n))) ∧ w' = w := by
  go_enter Tryd.func67, Tryd.ntmps67
  go_wp2_with fail
  go_ret
  exact ⟨rfl, rfl⟩
theorem cN_pos {pn : Nat → Nat} {i k : Nat} (h : i < k) (h0 : 0 < pn i) : 0 < cN pn k := by
  have : cN pn (i + 1) ≤ cN pn k := cN_mono pn (by omega)
  have e : cN pn (i + 1) = cN pn i + pn i := rfl
  omega
set_option maxHeartbeats 4000000 in
set_option maxRecDepth 100000 in
theorem IndexFunc_s (v : Value) (k : Nat) (pv : Nat → Value) (pn : Nat → Nat) (pf : Nat → Nat → Nat) (w : World) (hp : Ps w v k pv pn pf) :
    Calls Tryd.prog 136 #[v, .func (.func 67) #[] #[]] w fun e w' => ∃ r : Int, e = .returned (.int .i64 r) ∧ decide (0 ≤ r) = decide (0 < cN pn k) ∧ w' = w := by
  have hlen : ∃ p c, v = .slice p k c := by
    rcases hp.2 with ⟨rfl, rfl⟩ | ⟨g, o, cap, rfl, _⟩
    · exact ⟨none, 0, rfl⟩
    · exact ⟨_, _, rfl⟩
  obtain ⟨vp, vc, rfl⟩ := hlen
  have hkb : k ≤ 9223372036854775807 := by
    rcases hp.2 with ⟨rfl, _⟩ | ⟨g, o, cap, _, h1, h2, _⟩ <;> omega
  have HP : Hid (Ps w (.slice vp k vc) k pv pn pf) := hp
  clear hp
  go_enter Tryd.func136, Tryd.ntmps136
  go_wp2_with fail
  go_loopw [8] (fun t wr => ∃ i : Nat, i ≤ k ∧ t = .int .i64 (i : Int) ∧ cN pn i = 0 ∧ wr = w) (fun t _ => ((k : Int) - intOf t).toNat)
  case atStart => exact ⟨0, by omega, rfl, rfl, rfl⟩
  case round =>
    obtain ⟨i, hi, rfl, hz, rfl⟩ := hrel
    by_cases h8 : i < k
    · have hI : (i : Int) < (k : Int) := by omega
      have hI0 : (0 : Int) ≤ (i : Int) := by omega
      have e1 : IntKind.i64.wrap ((i : Int) + 1) = (i : Int) + 1 := by rw [IntKind.wrap_i64]; omega
      obtain ⟨pp, cc, hf⟩ := (HP.out.1 i h8).form
      rcases HP.out.2 with ⟨h0, _⟩ | ⟨g, o, cap, he, _, _, _, hcell⟩
      · omega
      · simp only [Value.slice.injEq] at he
        obtain ⟨rfl, _, rfl⟩ := he
        have cx := hcell i h8
        rw [hf] at cx
        have HZ : Hid (cN pn i = 0) := hz
        clear hcell hf hz
        go_wp2_with fail
        refine (hasBytes_s pp (pn i) cc wr).mono ?_
        rintro e w2 ⟨rfl, rfl⟩
        by_cases h0 : 0 < pn i
        · have hd : decide (0 < pn i) = true := by simpa using h0
          have HC : Hid (0 < cN pn k) := cN_pos h8 h0
          rw [hd]
          clear hd h0
          go_wp2_with fail
          go_ret
          exact ⟨(i : Int), rfl, by have := HC.out; simp [this], rfl⟩
        · have hd : decide (0 < pn i) = false := by simpa using h0
          have HZ2 : Hid (cN pn (i + 1) = 0) := by
            show cN pn i + pn i = 0
            have := HZ.out; omega
          rw [hd]
          clear hd h0
          go_wp2_with fail
          exact ⟨⟨i + 1, by omega, by go_num, HZ2.out, trivial⟩, by simp [intOf]; omega⟩
    · have h9 : i = k := by omega
      subst h9
      have hI : ¬ (i : Int) < (i : Int) := by omega
      have HZ : Hid (cN pn i = 0) := hz
      clear hz
      go_wp2_with fail
      go_ret
      exact ⟨-1, rfl, by rw [HZ.out]; simp, rfl⟩
set_option maxHeartbeats 4000000 in
set_option maxRecDepth 100000 in
theorem ContainsFunc_s (v : Value) (k : Nat) (pv : Nat → Value) (pn : Nat → Nat) (pf : Nat → Nat → Nat) (w : World) (hp : Ps w v k pv pn pf) :
    Calls Tryd.prog 102 #[v, .func (.func 67) #[] #[]] w fun e w' => e = .returned (.bool (decide (0 < cN pn k))) ∧ w' = w := by
  have HP : Hid (Ps w v k pv pn pf) := hp
  clear hp
  go_enter Tryd.func102, Tryd.ntmps102
  go_wp2_with fail
  refine (IndexFunc_s v k pv pn pf w HP.out).mono ?_
  rintro e w2 ⟨r, rfl, hr, rfl⟩
  have HR : Hid (decide (0 ≤ r) = decide (0 < cN pn k)) := hr
  clear hr
  go_wp2_with fail
  go_ret
  exact ⟨congrArg (fun b => Ending.returned (.bool b)) HR.out, rfl⟩
/-- K, V behind bytes that were stirred in. -/
def s2K (K V : Nat → Nat) (N : Nat) (X : Nat → Nat) : Nat → Nat := if N = 0 then sk 0 K V N X else sk 1 (sk 0 K V N X) (sv 0 K V N X) N X
def s2V (K V : Nat → Nat) (N : Nat) (X : Nat → Nat) : Nat → Nat := if N = 0 then sv 0 K V N X else sv 1 (sk 0 K V N X) (sv 0 K V N X) N X
theorem s2K_lt (K V : Nat → Nat) (N : Nat) (X : Nat → Nat) (j : Nat) : s2K K V N X j < 256 := by
  unfold s2K; split
  · exact sk_lt _ _ _ _ _ _
  · exact sk_lt _ _ _ _ _ _
theorem s2V_lt (K V : Nat → Nat) (N : Nat) (X : Nat → Nat) (j : Nat) : s2V K V N X j < 256 := by
  unfold s2V; split
  · exact sv_lt _ _ _ _ _ _
  · exact sv_lt _ _ _ _ _ _
set_option maxHeartbeats 4000000 in
set_option maxRecDepth 100000 in
theorem stirIn_s (g : Nat) (K V : Nat → Nat) (d : Nat) (v : Value) (k : Nat) (pv : Nat → Value) (pn : Nat → Nat) (pf : Nat → Nat → Nat) (w : World) (hG : Gl w) (hg : 2 ≤ g) (hK : ∀ i, i < 64 → K i < 256) (hV : ∀ i, i < 64 → V i < 256)
    (BG0 : Blk w g (gC K V d) 141) (hp : Pq g w v k pv pn pf) (h0 : 0 < k) (hk : k ≤ 1000) (hN : cN pn k < 9223372036854775808) :
    Calls Tryd.prog 63 #[.pointer (some ⟨g, 0, none⟩), v] w fun e w' => e = .returned (.tuple #[]) ∧ Chg w w' [g] ∧ Blk w' g (gC (s2K K V (cN pn k) (cF pn pf k)) (s2V K V (cN pn k) (cF pn pf k)) d) 141 := by
  obtain ⟨N, hNE⟩ : ∃ N, cN pn k = N := ⟨_, rfl⟩
  obtain ⟨X, hXE⟩ : ∃ X, cF pn pf k = X := ⟨_, rfl⟩
  have q1 := fun (w : World) (hG : Gl w) (BG0 : Blk w g (gC K V d) 141) (hp : Pq g w v k pv pn pf) => stirMarked_s g K V d 0 0 rfl (by decide) v k pv pn pf w hG hg hK hV BG0 hp h0 hk hN
  have q2 := fun (w : World) (hG : Gl w) (K V : Nat → Nat) (hK : ∀ i, i < 64 → K i < 256) (hV : ∀ i, i < 64 → V i < 256) (BG0 : Blk w g (gC K V d) 141) (hp : Pq g w v k pv pn pf) => stirMarked_s g K V d 1 1 rfl (by decide) v k pv pn pf w hG hg hK hV BG0 hp h0 hk hN
  have HC : Hid (∀ w, Ps w v k pv pn pf → Calls Tryd.prog 102 #[v, .func (.func 67) #[] #[]] w fun e w' => e = .returned (.bool (decide (0 < cN pn k))) ∧ w' = w) := fun w hp => ContainsFunc_s v k pv pn pf w hp
  rw [hNE, hXE] at q1 q2
  rw [hNE] at HC
  rw [hNE, hXE]
  have HQ1 : Hid (_ ∧ True) := ⟨q1, trivial⟩
  have HQ2 : Hid (_ ∧ True) := ⟨q2, trivial⟩
  have HX : Hid (Gl w ∧ Blk w g (gC K V d) 141 ∧ Pq g w v k pv pn pf) := ⟨hG, BG0, hp⟩
  have HG01 : Hid (¬ 0 ∈ [g] ∧ ¬ 1 ∈ [g]) := ⟨by simp; omega, by simp; omega⟩
  have HL0 : Hid (∀ i, i < 64 → sk 0 K V N X i < 256) := fun i _ => sk_lt _ _ _ _ _ _
  have HL1 : Hid (∀ i, i < 64 → sv 0 K V N X i < 256) := fun i _ => sv_lt _ _ _ _ _ _
  clear q1 q2 hG BG0 hp hK hV hg h0 hk hN hNE hXE
  unfold s2K s2V
  obtain ⟨K1, hK1⟩ : ∃ z, sk 0 K V N X = z := ⟨_, rfl⟩
  obtain ⟨V1, hV1⟩ : ∃ z, sv 0 K V N X = z := ⟨_, rfl⟩
  rw [hK1, hV1] at HQ1
  rw [hK1] at HL0
  rw [hV1] at HL1
  rw [hK1, hV1]
  clear hK1 hV1
  by_cases hz : N = 0
  · rw [if_pos hz, if_pos hz]
    have hd : decide (0 < N) = false := by subst hz; rfl
    rw [hd] at HC
    clear hd hz
    go_enter Tryd.func63, Tryd.ntmps63
    go_wp2_with fail
    refine (HQ1.out.1 w HX.out.1 HX.out.2.1 HX.out.2.2).mono ?_
    rintro e w2 ⟨rfl, k2, B2⟩
    go_wp2_with fail
    refine (HC.out w2 (HX.out.2.2.chg k2).ps).mono ?_
    rintro e w3 ⟨rfl, rfl⟩
    go_wp2_with fail
    go_end0
    exact ⟨rfl, k2, B2⟩
  · rw [if_neg hz, if_neg hz]
    have hd : decide (0 < N) = true := by simp; omega
    rw [hd] at HC
    obtain ⟨K2, hK2⟩ : ∃ z, sk 1 K1 V1 N X = z := ⟨_, rfl⟩
    obtain ⟨V2, hV2⟩ : ∃ z, sv 1 K1 V1 N X = z := ⟨_, rfl⟩
    have HQ3 : Hid (_ ∧ True) := ⟨fun w hG => HQ2.out.1 w hG K1 V1 HL0.out HL1.out, trivial⟩
    rw [hK2, hV2] at HQ3
    rw [hK2, hV2]
    clear hd hz HQ2 hK2 hV2
    go_enter Tryd.func63, Tryd.ntmps63
    go_wp2_with fail
    refine (HQ1.out.1 w HX.out.1 HX.out.2.1 HX.out.2.2).mono ?_
    rintro e w2 ⟨rfl, k2, B2⟩
    go_wp2_with fail
    refine (HC.out w2 (HX.out.2.2.chg k2).ps).mono ?_
    rintro e w3 ⟨rfl, rfl⟩
    go_wp2_with fail
    refine (HQ3.out.1 w3 (HX.out.1.chg k2 HG01.out.1 HG01.out.2) B2 (HX.out.2.2.chg k2)).mono ?_
    rintro e w4 ⟨rfl, k4, B4⟩
    go_wp2_with fail
    go_end0
    exact ⟨rfl, k2.trans1 k4, B4⟩
end Go.Proofs.YthpfdnkcepfbaaaDoor
