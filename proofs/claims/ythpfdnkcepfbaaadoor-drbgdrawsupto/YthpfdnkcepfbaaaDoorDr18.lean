/- rimeref11.Expand. -/
import Derived.Test.YthpfdnkcepfbaaaDoorDr17
import Derived.Test.YthpfdnkcepfbaaaDoorDr15
set_option linter.unusedVariables false
set_option linter.unusedSimpArgs false
set_option linter.unnecessarySimpa false
namespace Go.Proofs.YthpfdnkcepfbaaaDoor
open Go.RowKit

/-- Bytes at the head of a block of bytes, or nil. -/
def Ny (w : World) (v : Value) (n : Nat) (f : Nat → Nat) : Prop := (n = 0 ∧ v = .slice none 0 0) ∨ ∃ g c C, v = .slice (some ⟨g, 0, none⟩) n c ∧ n ≤ c ∧ c ≤ 9223372036854775807 ∧ Blk w g C 5 ∧ Bs w g 0 n f
theorem Ny.sl {w : World} {v : Value} {n : Nat} {f : Nat → Nat} (h : Ny w v n f) : Sl w v n f := by
  rcases h with h | ⟨g, c, C, rfl, h1, h2, _, hb⟩
  · exact Or.inl h
  · exact Or.inr ⟨g, 0, c, rfl, h1, h2, hb⟩
theorem Ny.off {w w' : World} {v : Value} {n : Nat} {f : Nat → Nat} (h : Ny w v n f) {l : List Nat} (hc : Chg w w' l) (hl : ∀ g C, Blk w g C 5 → ¬ g ∈ l) : Ny w' v n f := by
  rcases h with h | ⟨g, c, C, rfl, h1, h2, B, hb⟩
  · exact Or.inl h
  · exact Or.inr ⟨g, c, C, rfl, h1, h2, B.chg hc (hl g C B), hb.chg hc (hl g C B)⟩
theorem Ny.chg {w w' : World} {v : Value} {n : Nat} {f : Nat → Nat} (h : Ny w v n f) (hc : Chg w w' []) : Ny w' v n f := h.off hc (by simp)
theorem Blk.ny {w : World} {g n : Nat} {f : Nat → Nat} (B : Blk w g (yC n f) 5) (hf : ∀ i, i < n → f i < 256) (hn : n ≤ 9223372036854775807) : Ny w (.slice (some ⟨g, 0, none⟩) n n) n f := Or.inr ⟨g, n, _, rfl, Nat.le_refl _, hn, B, B.bs hf⟩
theorem Own.ny {w : World} {base : Nat} {p : Option Addr} {T c : Nat} {f : Nat → Nat} (O : Own w base (.slice p T c) T f) {M : Nat} (h : M ≤ T) : Ny w (.slice p M c) M f := by
  have S := O.sl
  obtain ⟨⟨_, h1⟩, _⟩ := id O
  rcases h1 with ⟨e, h0⟩ | ⟨g, cap, cur, e, _⟩
  · simp only [Value.slice.injEq] at e
    obtain ⟨rfl, _, rfl⟩ := e
    obtain rfl : M = 0 := by omega
    exact Or.inl ⟨rfl, rfl⟩
  · simp only [Value.slice.injEq] at e
    obtain ⟨rfl, _, rfl⟩ := e
    obtain ⟨C, hC⟩ := ownsRow_blk O.1 (k := g) (by simp [ob, Value.ownBlock])
    rcases S with ⟨_, q⟩ | ⟨g', o', c', q, q1, q2, hb⟩
    · simp at q
    · simp only [Value.slice.injEq, Option.some.injEq, Addr.mk.injEq] at q
      obtain ⟨⟨rfl, rfl, _⟩, _, rfl⟩ := q
      exact Or.inr ⟨g, c, C, rfl, by omega, q2, hC, ⟨hb.lt, fun i hi => hb.bd i (by omega), fun i hi => hb.cell i (by omega)⟩⟩
theorem Expand_y (kv : Value) (n : Nat) (kf : Nat → Nat) (iv : Value) (m : Nat) (f : Nat → Nat) (N : Int) (w : World) (hG : Gl w) (hk : Se w kv n kf) (hi : Se w iv m f) :
    Calls Tryd.prog 10 #[kv, iv, .int .i64 N] w fun e w' => ∃ v, e = .returned (.tuple #[v, .int .i64 (xe N)]) ∧ Ny w' v (xl N) (xO n kf m f) ∧ Chg w w' [] := by
  by_cases h : xe N = 0
  · obtain ⟨h1, h2, h3⟩ := xe_0 h
    have q := Expand_ok kv n kf iv m f N.toNat w hG hk hi h2
    rw [← h1] at q
    refine q.mono ?_
    rintro e w' ⟨ob, rfl, hob, B, c⟩
    rw [h3, h]
    exact ⟨_, rfl, B.ny (fun j _ => xT_lt _ _ _ _ _ _) (by omega), c⟩
  · have hx : xl N = 0 := by unfold xl; rw [if_neg h]
    obtain ⟨pi, ci, hiv⟩ := hi.form
    refine (Expand_no kv iv N (xe N) (xe_no h) w ⟨_, _, _, hiv⟩).mono ?_
    rintro e w' ⟨rfl, c⟩
    rw [hx]
    exact ⟨_, rfl, Or.inl ⟨rfl, rfl⟩, c⟩
/-- The digest ahead, behind j of them. -/
def La (w : World) (v : Value) (n : Nat) (kf : Nat → Nat) (m : Nat) (f : Nat → Nat) (j : Nat) : Prop := (j = 0 ∧ v = .slice none 0 0) ∨ (0 < j ∧ ∃ db, v = .slice (some ⟨db, 0, none⟩) 64 64 ∧ Blk w db (yC 64 (xT n kf m f j)) 47)
theorem La.se {w : World} {v : Value} {n : Nat} {kf : Nat → Nat} {m : Nat} {f : Nat → Nat} {j : Nat} (h : La w v n kf m f j) : Se w v (xn j) (xT n kf m f j) := by
  rcases h with ⟨rfl, rfl⟩ | ⟨h0, db, rfl, B⟩
  · exact Or.inl (Or.inl ⟨rfl, rfl⟩)
  · have e : xn j = 64 := by unfold xn; rw [if_neg (by omega)]
    rw [e]
    exact Or.inl (B.slT (fun i _ => xT_lt _ _ _ _ _ _) (by omega))
theorem cat_jn (D : Nat → Nat → Nat) (j : Nat) : ∀ i, i < 64 * j + 64 → cat (jn D) (64 * j) (D j) i = jn D i := fun i hi => by
  unfold cat jn
  by_cases h : i < 64 * j
  · rw [if_pos h]
  · rw [if_neg h, show i / 64 = j by omega, show i % 64 = i - 64 * j by omega]
set_option maxHeartbeats 16000000 in
set_option maxRecDepth 100000 in
theorem Expand_r (kv : Value) (n : Nat) (kf : Nat → Nat) (iv : Value) (m : Nat) (f : Nat → Nat) (N : Int) (w : World) (hk : Se w kv n kf) (hn : n ≤ 140737488355328) (hi : Se w iv m f) (hm : m ≤ 70368744177000) :
    Calls Tryd.prog 11 #[kv, iv, .int .i64 N] w fun e w' => ∃ v, e = .returned (.tuple #[v, .int .i64 (xe N)]) ∧ Ny w' v (xl N) (xO n kf m f) ∧ Chg w w' [] := by
  have HK : Hid (Se w kv n kf ∧ n ≤ 140737488355328) := ⟨hk, hn⟩
  have HI : Hid (Se w iv m f ∧ m ≤ 70368744177000) := ⟨hi, hm⟩
  obtain ⟨p0, c0, rfl⟩ := hk.form
  obtain ⟨p1, c1, rfl⟩ := hi.form
  clear hk hn hi hm
  by_cases hx : xe N = 0
  · obtain ⟨a1, a2, a3⟩ := xe_0 hx
    obtain ⟨M, hM⟩ : ∃ M, N.toNat = M := ⟨_, rfl⟩
    rw [hx, a3, hM]
    rw [hM] at a1 a2
    subst a1
    have HM : Hid (M ≤ 16320) := a2
    have h1 : ¬ (M : Int) < 0 := by omega
    have h2 : ¬ (16320 : Int) < (M : Int) := by omega
    clear hx a3 hM a2
    go_enter Tryd.func11, Tryd.ntmps11
    go_wp2_with fail
    go_loopw [8, 9, 10] (fun tu tl t wr => ∃ j : Nat, (j = 0 ∨ 64 * (j - 1) < M) ∧ t = .int .i64 ((j + 1 : Nat) : Int) ∧ Own wr w.heap.size tu (64 * j) (xO n kf m f) ∧ La wr tl n kf m f j ∧ Chg w wr []) (fun _ _ t _ => ((16321 : Int) - intOf t).toNat)
    case atStart => exact ⟨0, Or.inl rfl, rfl, Own.nil _ _ _, Or.inl ⟨rfl, rfl⟩, Chg.refl _ _⟩
    case round =>
      obtain ⟨j, hj, rfl, OU, LA, C⟩ := hrel
      obtain ⟨pu, cu, rfl⟩ := OU.len
      obtain ⟨pl, cl, rfl⟩ := LA.se.form
      have HJ : Hid (j = 0 ∨ 64 * (j - 1) < M) := hj
      have HJB : Hid (j ≤ 256) := by have := HM.out; show j ≤ 256; omega
      by_cases h8 : 64 * j < M
      · have hI : ((64 * j : Nat) : Int) < (M : Int) := by omega
        have HJ8 : Hid (64 * j < M) := h8
        obtain ⟨y, hy⟩ : ∃ y, (j + 1) % 256 = y := ⟨_, rfl⟩
        obtain ⟨J, hJ⟩ : ∃ z, j + 1 = z := ⟨_, rfl⟩
        have HJJ : Hid (j + 1 = J) := hJ
        rw [hJ]
        have e1 : IntKind.i64.wrap ((J : Int) + 1) = (J : Int) + 1 := by have := HJB.out; rw [IntKind.wrap_i64]; omega
        have e2 : IntKind.u8.wrap (J : Int) = (y : Int) := by rw [IntKind.wrap_u8]; omega
        have e3 : (J : Int) % 256 = (y : Int) := by omega
        clear hJ
        have HY : Hid ((j + 1) % 256 = y ∧ y < 256) := ⟨hy, by omega⟩
        obtain ⟨D, hD⟩ : ∃ z, xT n kf m f (j + 1) = z := ⟨_, rfl⟩
        have HD : Hid (mac n kf (xn j + m + 1) (cat (cat (xT n kf m f j) (xn j) f) (xn j + m) (fun _ => y)) = D) := by show mac _ _ _ _ = D; rw [← hD, ← hy]; rfl
        have HDX : Hid (xT n kf m f (j + 1) = D) := hD
        have HDL : Hid (∀ i, D i < 256) := fun i => by rw [← hD]; exact xT_lt _ _ _ _ _ _
        have HXN : Hid (xn j ≤ 64) := by show xn j ≤ 64; unfold xn; split <;> omega
        obtain ⟨T, hT⟩ : ∃ z, 64 * j = z := ⟨_, rfl⟩
        have HT : Hid (64 * j = T) := hT
        obtain ⟨X, hX⟩ : ∃ z, xn j = z := ⟨_, rfl⟩
        rw [hT] at OU hI ⊢
        have HL : Hid (Se wr (.slice pl (xn j) cl) (xn j) (xT n kf m f j)) := LA.se
        rw [hX] at HL HD HXN ⊢
        have HO : Hid (Own wr w.heap.size (.slice pu T cu) T (xO n kf m f)) := OU
        have B1 := Blk.new wr #[.int .u8 (y : Int)] 5
        have k1 := (Chg.refl wr []).alloc (.cells #[.int .u8 (y : Int)] 5)
        have S1 : Se (wr.alloc (.cells #[.int .u8 (y : Int)] 5)) (.slice (some ⟨wr.heap.size, 0, none⟩) 1 1) 1 (fun _ => y) := Or.inl (Blk.slT (N := 1) (t := fun _ => y) B1 (fun _ _ => HY.out.2) (by omega))
        obtain ⟨wa, hwa⟩ : ∃ z, wr.alloc (.cells #[.int .u8 (y : Int)] 5) = z := ⟨_, rfl⟩
        obtain ⟨mb, hmb⟩ : ∃ z, wr.heap.size = z := ⟨_, rfl⟩
        obtain ⟨lb, hlb⟩ : ∃ z, wr.heap.size + 1 = z := ⟨_, rfl⟩
        have hlb2 : wa.heap.size = lb := by rw [← hwa, ← hlb]; simp
        rw [hwa, hmb] at S1
        rw [hwa] at k1
        have B2 := Blk.new wa #[.slice pl X cl, .slice p1 m c1, .slice (some ⟨mb, 0, none⟩) 1 1] 22
        have k2 := (Chg.refl wa []).alloc (.cells #[.slice pl X cl, .slice p1 m c1, .slice (some ⟨mb, 0, none⟩) 1 1] 22)
        rw [hlb2] at B2
        have HAA : Hid (wr.alloc (.cells #[.int .u8 (y : Int)] 5) = wa ∧ wr.heap.size = mb ∧ wr.heap.size + 1 = lb) := ⟨hwa, hmb, hlb⟩
        clear hj hy hD hX hT h8 OU LA B1 hwa hmb hlb hlb2
        go_wp2_with fail
        rw [HAA.out.2.2, HAA.out.1, HAA.out.2.1]
        generalize wa.alloc (.cells #[.slice pl X cl, .slice p1 m c1, .slice (some ⟨mb, 0, none⟩) 1 1] 22) = wb at *
        have c2 := k1.trans1 k2
        refine (MAC_r _ n kf _ 3 _ _ _ wb ((HK.out.1.chg C).chg c2) HK.out.2 (Ps.mk3 B2 (HL.out.chg c2) ((HI.out.1.chg C).chg c2) (S1.chg k2)) (by rw [cN_3]; have := HI.out; have := HXN.out; omega)).mono ?_
        rintro e wc ⟨rfl, k3⟩
        rw [cN_3, cF_3, HD.out]
        have c3 := c2.trans1 k3
        clear B2 k1 k2 k3 c2 S1 HAA
        go_wp2_with (first
          | (refine append_y rfl (.tmp 31) (.tmp 32) rfl w.heap.size (.slice pu T cu) (.slice (some ⟨db, 0, none⟩) 64 64) T 64 (xO n kf m f) D rfl rfl OQ (BD5.slT (fun i _ => HDL.out i) (by omega)) (by have := HT.out; have := HJB.out; omega) (by have := C.size; have := c3.size; have := k4.size; have := k5.size; omega) ?_; intro a1 w6 O6 k6)
          | (refine store_w BD rfl 47 _ _ (yC 64 D) rfl rfl rfl (by rw [yC_size]; exact digInfo) (by rw [yC_size, yC_size]) (yC_one 64 _) ?_; intro w5 BD5 k5; have OQ := ((HO.out.chg c3 (by simp)).chg k4 (by simp)).chg k5 (fun x hx hy => by have := (HO.out.ob_ge x hx).2; have := c3.size; simp at hy; omega))
          | (with_reducible refine alloc_w rfl 47 rfl (.agg (yC 64 (fun _ => 0))) zeroDig (yC 64 (fun _ => 0)) rfl ?_; intro db w4 hdb BD k4))
        have O6' : Own w6 w.heap.size a1 (64 * (j + 1)) (xO n kf m f) := by
          have q := O6
          rw [← HT.out] at q
          have q2 := q.cong (g := xO n kf m f) (fun i hi => by
            have e : D = (fun i => xT n kf m f (i + 1)) j := HDX.out.symm
            rw [e]
            exact cat_jn (fun i => xT n kf m f (i + 1)) j i hi)
          exact (show 64 * (j + 1) = 64 * j + 64 by omega) ▸ q2
        have BD6 := BD5.chg k6 (OQ.nt BD5 (by decide))
        have C6 : Chg w w6 [] := (((C.trans1 c3).trans1 k4).new k5 (by have := C.size; have := c3.size; omega)).trans k6 (fun x hx => Or.inr (HO.out.ob_ge x hx).1)
        exact ⟨⟨j + 1, Or.inr (by have := HJ8.out; omega), by have := HJJ.out; simp only [Value.int.injEq, true_and]; omega, O6', Or.inr ⟨by omega, db, rfl, by rw [HDX.out]; exact BD6⟩, C6⟩, by have := HJB.out; have := HJJ.out; simp [intOf]; omega⟩
      · have hI : ¬ ((64 * j : Nat) : Int) < (M : Int) := by omega
        have HE : Hid (M ≤ 64 * j) := by show M ≤ 64 * j; omega
        obtain ⟨T, hT⟩ : ∃ z, 64 * j = z := ⟨_, rfl⟩
        rw [hT] at OU hI HE ⊢
        have HTC : Hid (T ≤ cu) := by
          rcases OU.sl with ⟨q1, q2⟩ | ⟨g, o, c, e, q1, _⟩
          · simp only [Value.slice.injEq] at q2; show T ≤ cu; omega
          · simp only [Value.slice.injEq] at e; show T ≤ cu; omega
        have h3 : (0 : Int) ≤ (M : Int) := by omega
        have h4 : (M : Int) ≤ (cu : Int) := by have := HTC.out; have := HE.out; omega
        have HS : Hid (Ny wr (.slice pu M cu) M (xO n kf m f)) := OU.ny HE.out
        clear hT hj h8 LA OU
        go_wp2_with fail
        go_ret2
        exact ⟨_, rfl, HS.out, C⟩
  · have hl : xl N = 0 := by unfold xl; rw [if_neg hx]
    rw [hl]
    rcases xe_no hx with ⟨h, he⟩ | ⟨h, he⟩
    · rw [he]
      go_enter Tryd.func11, Tryd.ntmps11
      go_wp2_with fail
      go_ret2
      exact ⟨_, rfl, Or.inl ⟨rfl, rfl⟩, Chg.refl _ _⟩
    · rw [he]
      have h0 : ¬ N < 0 := by omega
      go_enter Tryd.func11, Tryd.ntmps11
      go_wp2_with fail
      go_ret2
      exact ⟨_, rfl, Or.inl ⟨rfl, rfl⟩, Chg.refl _ _⟩
end Go.Proofs.YthpfdnkcepfbaaaDoor
