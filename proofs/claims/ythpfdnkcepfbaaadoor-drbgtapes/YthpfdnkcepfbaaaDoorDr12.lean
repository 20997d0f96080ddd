/- drbg: Draw, Reseed, New in one contract each; SameBytes of bytes that are the same. -/
import Derived.Test.YthpfdnkcepfbaaaDoorDr11
import Derived.Test.YthpfdnkcepfbaaaDoorMgH
set_option linter.unusedVariables false
set_option linter.unusedSimpArgs false
set_option linter.unnecessarySimpa false
namespace Go.Proofs.YthpfdnkcepfbaaaDoor
open Go.RowKit

theorem SameBytes_0 (p p' : Option Addr) (c c' : Nat) (w : World) : Calls Tryd.prog 16 #[.slice p 0 c, .slice p' 0 c'] w fun e w' => e = .returned (.bool true) ∧ Chg w w' [] := by
  go_enter Tryd.func16, Tryd.ntmps16
  go_wp2_with fail
  go_loopw [5] (fun t wr => t = .int .i64 0 ∧ Chg w wr []) (fun _ _ => 0)
  case atStart => exact ⟨rfl, Chg.refl w []⟩
  case round =>
    obtain ⟨rfl, cc⟩ := hrel
    go_wp2_with fail
    go_ret
    exact ⟨rfl, cc⟩
theorem Sl.cg {w : World} {v : Value} {n : Nat} {f g : Nat → Nat} (h : Sl w v n f) (e : ∀ i, i < n → f i = g i) : Sl w v n g := by
  rcases h with h | ⟨b, o, c, rfl, h1, h2, h3⟩
  · exact Or.inl h
  · exact Or.inr ⟨b, o, c, rfl, h1, h2, h3.lt, fun i hi => by rw [← e i hi]; exact h3.bd i hi, fun i hi => by rw [← e i hi]; exact h3.cell i hi⟩
theorem SameBytes_sl (v u : Value) (n : Nat) (f : Nat → Nat) (w : World) (hv : Sl w v n f) (hu : Sl w u n f) : Calls Tryd.prog 16 #[v, u] w fun e w' => e = .returned (.bool true) ∧ Chg w w' [] := by
  by_cases h0 : n = 0
  · subst h0
    have form : ∀ x, Sl w x 0 f → ∃ p c, x = .slice p 0 c := by
      intro x hx
      rcases hx with ⟨_, e⟩ | ⟨g, o, c, e, _⟩
      · exact ⟨_, _, e⟩
      · exact ⟨_, _, e⟩
    obtain ⟨p, c, rfl⟩ := form v hv
    obtain ⟨p', c', rfl⟩ := form u hu
    exact SameBytes_0 p p' c c' w
  rcases hv with ⟨h, _⟩ | ⟨g, o, c, rfl, hn, hc, hb⟩
  · omega
  rcases hu with ⟨h, _⟩ | ⟨g', o', c', rfl, hn', hc', hb'⟩
  · omega
  refine (SameBytes_g g o c g' o' c' n f f w (by omega) hb hb' (fun _ _ => rfl)).mono ?_
  rintro e w' ⟨rfl, m, rfl⟩
  exact ⟨rfl, (Chg.refl w []).drewN m⟩
theorem Se.le {w : World} {v : Value} {n : Nat} {f : Nat → Nat} (h : Se w v n f) : n < 9223372036854775808 := by
  rcases h with (⟨rfl, _⟩ | ⟨g, o, c, _, h1, h2, _⟩) | ⟨rfl, _⟩ <;> omega
/-- v lies in a block from b on, or nowhere. -/
def VN (v : Value) (b : Nat) : Prop := ∀ g o n c, v = .slice (some ⟨g, o, none⟩) n c → b ≤ g
theorem VN.off {v : Value} {b : Nat} (h : VN v b) {g : Nat} (hg : g < b) : Off v [g] := fun g' o n c e hx => by
  have := h g' o n c e
  simp at hx
  omega
def aN (n : Int) (d : Nat) : Nat := if rfs n d = 0 then n.toNat else 0
def aK (K V : Nat → Nat) (d : Nat) (n : Int) (m : Nat) (f : Nat → Nat) : Nat → Nat := if rfs n d = 0 then dK K V m f n.toNat else K
def aV (K V : Nat → Nat) (d : Nat) (n : Int) (m : Nat) (f : Nat → Nat) : Nat → Nat := if rfs n d = 0 then dV K V m f n.toNat else V
def aD (n : Int) (d : Nat) : Nat := if rfs n d = 0 then d + 1 else d
/-- Bytes, 64 of them. -/
def L64 (K : Nat → Nat) : Prop := ∀ i, i < 64 → K i < 256
theorem aK_lt {K V : Nat → Nat} (h : L64 K) (d : Nat) (n : Int) (m : Nat) (f : Nat → Nat) : L64 (aK K V d n m f) := by
  unfold aK; split
  · exact fun i _ => s2K_lt _ _ _ _ _
  · exact h
theorem aV_lt {K V : Nat → Nat} (h : L64 V) (d : Nat) (n : Int) (m : Nat) (f : Nat → Nat) : L64 (aV K V d n m f) := by
  unfold aV; split
  · exact fun i _ => s2V_lt _ _ _ _ _
  · exact h
theorem rfs_0 {n : Int} {d : Nat} (h : rfs n d = 0) (hd : d ≤ 4096) : n = ((n.toNat : Nat) : Int) ∧ n.toNat ≤ 65536 ∧ d < 4096 := by
  unfold rfs at h
  split at h
  · omega
  · split at h
    · omega
    · split at h
      · omega
      · omega
theorem aD_le {n : Int} {d : Nat} (hd : d ≤ 4096) : aD n d ≤ 4096 := by
  unfold aD; split
  · next h => have := rfs_0 h hd; omega
  · exact hd
theorem Draw_a (g : Nat) (K V : Nat → Nat) (d : Nat) (n : Int) (ev : Value) (m : Nat) (f : Nat → Nat) (w : World) (hG : Gl w) (hg : 2 ≤ g) (hK : L64 K) (hV : L64 V) (hd : d ≤ 4096) (B : Blk w g (gC K V d) 141) (hev : SeO g w ev m f) :
    Calls Tryd.prog 22 #[.pointer (some ⟨g, 0, none⟩), .int .i64 n, ev] w fun e w' => ∃ v, e = .returned (.tuple #[v, .int .i64 (rfs n d)]) ∧ Sl w' v (aN n d) (dO K V m f) ∧ VN v w.heap.size ∧ Chg w w' [g] ∧ Blk w' g (gC (aK K V d n m f) (aV K V d n m f) (aD n d)) 141 := by
  by_cases hr : rfs n d = 0
  · obtain ⟨e1, e2, e3⟩ := rfs_0 hr hd
    unfold aN aK aV aD
    rw [if_pos hr, if_pos hr, if_pos hr, if_pos hr, hr]
    obtain ⟨N, hN⟩ : ∃ N, n.toNat = N := ⟨_, rfl⟩
    rw [hN] at e1 e2 ⊢
    subst e1
    refine (Draw_ok g K V d N ev m f w hG hg hK hV B hev hev.se.le e2 e3).mono ?_
    rintro e w' ⟨ob, rfl, h1, h2, h3, h4⟩
    refine ⟨_, rfl, h2.slT (fun j _ => dO_lt _ _ _ _ _) (by omega), fun g' o n' c he => ?_, h3, h4⟩
    simp only [Value.slice.injEq, Option.some.injEq, Addr.mk.injEq] at he
    omega
  · unfold aN aK aV aD
    rw [if_neg hr, if_neg hr, if_neg hr, if_neg hr]
    refine (Draw_no g K V d n ev w B hr).mono ?_
    rintro e w' ⟨rfl, rfl⟩
    exact ⟨_, rfl, Or.inl ⟨rfl, rfl⟩, fun g' o n' c he => by simp at he, Chg.refl _ _, B⟩
def sE (n0 : Nat) : Int := if n0 < 32 then 111 else 0
def sK (K V : Nat → Nat) (n0 : Nat) (f0 : Nat → Nat) : Nat → Nat := if n0 < 32 then K else s2K K V (n0 + 0) (cat f0 n0 (fun _ => 0))
def sV (K V : Nat → Nat) (n0 : Nat) (f0 : Nat → Nat) : Nat → Nat := if n0 < 32 then V else s2V K V (n0 + 0) (cat f0 n0 (fun _ => 0))
def sD (d n0 : Nat) : Nat := if n0 < 32 then d else 0
theorem sK_lt {K V : Nat → Nat} (h : L64 K) (n0 : Nat) (f0 : Nat → Nat) : L64 (sK K V n0 f0) := by
  unfold sK; split
  · exact h
  · exact fun i _ => s2K_lt _ _ _ _ _
theorem sV_lt {K V : Nat → Nat} (h : L64 V) (n0 : Nat) (f0 : Nat → Nat) : L64 (sV K V n0 f0) := by
  unfold sV; split
  · exact h
  · exact fun i _ => s2V_lt _ _ _ _ _
theorem sD_le {d : Nat} (h : d ≤ 4096) (n0 : Nat) : sD d n0 ≤ 4096 := by unfold sD; split <;> omega
theorem Reseed_a (g : Nat) (K V : Nat → Nat) (d : Nat) (v0 : Value) (n0 : Nat) (f0 : Nat → Nat) (w : World) (hG : Gl w) (hg : 2 ≤ g) (hK : L64 K) (hV : L64 V) (B : Blk w g (gC K V d) 141) (h0 : SeO g w v0 n0 f0) :
    Calls Tryd.prog 24 #[.pointer (some ⟨g, 0, none⟩), v0, .slice none 0 0] w fun e w' => e = .returned (.int .i64 (sE n0)) ∧ Chg w w' [g] ∧ Blk w' g (gC (sK K V n0 f0) (sV K V n0 f0) (sD d n0)) 141 := by
  unfold sE sK sV sD
  by_cases h : n0 < 32
  · rw [if_pos h, if_pos h, if_pos h, if_pos h]
    refine (Reseed_no g K V d v0 _ n0 f0 w B h0.se h).mono ?_
    rintro e w' ⟨rfl, rfl⟩
    exact ⟨rfl, Chg.refl _ _, B⟩
  · rw [if_neg h, if_neg h, if_neg h, if_neg h]
    exact Reseed_ok g K V d v0 _ n0 0 f0 (fun _ => 0) w hG hg hK hV B h0 (seo_nil _ _ _) (by omega) (by have := h0.se.le; omega)
/-- A generator that was made, or none: its blocks. -/
def zb : Value → List Nat
  | .pointer (some a) => [a.block]
  | _ => []
def ZS (w : World) (zv : Value) : Prop := zv = .pointer none ∨ ∃ g K V d, zv = .pointer (some ⟨g, 0, none⟩) ∧ L64 K ∧ L64 V ∧ d ≤ 4096 ∧ Blk w g (gC K V d) 141
theorem ZS.chg {w w' : World} {zv : Value} {l : List Nat} (h : ZS w zv) (hc : Chg w w' l) (hl : ∀ b, b ∈ zb zv → ¬ b ∈ l) : ZS w' zv := by
  rcases h with h | ⟨g, K, V, d, rfl, h1, h2, h3, h4⟩
  · exact Or.inl h
  · exact Or.inr ⟨g, K, V, d, rfl, h1, h2, h3, h4.chg hc (hl g (by simp [zb]))⟩
theorem New_z (v0 : Value) (n0 : Nat) (f0 : Nat → Nat) (w : World) (hG : Gl w) (h0 : Se w v0 n0 f0) :
    Calls Tryd.prog 20 #[v0, .slice none 0 0, .slice none 0 0] w fun e w' => ∃ zv en, e = .returned (.tuple #[zv, .int .i64 en]) ∧ ZS w' zv ∧ (∀ b, b ∈ zb zv → w.heap.size ≤ b ∧ b < w'.heap.size) ∧ Chg w w' [] := by
  by_cases h : n0 < 32
  · refine (New_no v0 _ _ n0 f0 w h0 h).mono ?_
    rintro e w' ⟨rfl, rfl⟩
    exact ⟨_, _, rfl, Or.inl rfl, fun b hb => by simp [zb] at hb, Chg.refl _ _⟩
  · refine (New_ok v0 _ _ n0 0 0 f0 (fun _ => 0) (fun _ => 0) w hG h0 (se_nil _ _) (se_nil _ _) (by omega) (by have := h0.le; omega)).mono ?_
    rintro e w' ⟨g, rfl, hg, k, B⟩
    exact ⟨_, _, rfl, Or.inr ⟨g, _, _, 0, rfl, fun i _ => s2K_lt _ _ _ _ _, fun i _ => s2V_lt _ _ _ _ _, by omega, B⟩, fun b hb => by
      simp [zb] at hb; subst hb; exact ⟨hg, B.lt⟩, k⟩
theorem Draw_z (zv : Value) (n : Int) (ev : Value) (m : Nat) (f : Nat → Nat) (w : World) (hG : Gl w) (hz : ZS w zv) (hb : ∀ b, b ∈ zb zv → 2 ≤ b ∧ SeO b w ev m f) :
    Calls Tryd.prog 22 #[zv, .int .i64 n, ev] w fun e w' => ∃ r, e = .returned r ∧ ZS w' zv ∧ Chg w w' (zb zv) := by
  rcases hz with rfl | ⟨g, K, V, d, rfl, h1, h2, h3, h4⟩
  · refine (Draw_nil n ev w).mono ?_
    rintro e w' ⟨rfl, rfl⟩
    exact ⟨_, rfl, Or.inl rfl, Chg.refl _ _⟩
  · obtain ⟨q1, q2⟩ := hb g (by simp [zb])
    refine (Draw_a g K V d n ev m f w hG q1 h1 h2 h3 h4 q2).mono ?_
    rintro e w' ⟨v, rfl, _, _, k, B⟩
    exact ⟨_, rfl, Or.inr ⟨g, _, _, _, rfl, aK_lt h1 _ _ _ _, aV_lt h2 _ _ _ _, aD_le h3, B⟩, k⟩
end Go.Proofs.YthpfdnkcepfbaaaDoor
