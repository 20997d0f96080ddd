/- rimeref11: joined, New, Draw, Reseed, Random. -/
import Derived.Test.YthpfdnkcepfbaaaDoorDr18
import Derived.Test.YthpfdnkcepfbaaaDoorDr19
import Derived.Test.YthpfdnkcepfbaaaDoorDr16
set_option linter.unusedVariables false
set_option linter.unusedSimpArgs false
set_option linter.unnecessarySimpa false
namespace Go.Proofs.YthpfdnkcepfbaaaDoor
open Go.RowKit

set_option maxHeartbeats 4000000 in
set_option maxRecDepth 100000 in
theorem joined_r (v0 v1 v2 : Value) (n0 n1 n2 : Nat) (f0 f1 f2 : Nat → Nat) (w : World) (h0 : Se w v0 n0 f0) (h1 : Se w v1 n1 f1) (h2 : Se w v2 n2 f2) (hN : n0 + n1 + n2 ≤ 70368744177000) :
    Calls Tryd.prog 65 #[v0, v1, v2] w fun e w' => ∃ v, e = .returned v ∧ Own w' w.heap.size v (n0 + n1 + n2) (cat (cat f0 n0 f1) (n0 + n1) f2) ∧ Chg w w' [] := by
  obtain ⟨p0, c0, rfl⟩ := h0.form
  obtain ⟨p1, c1, rfl⟩ := h1.form
  obtain ⟨p2, c2, rfl⟩ := h2.form
  have H0 : Hid (Se w (.slice p0 n0 c0) n0 f0) := h0
  have H1 : Hid (∀ W, Chg w W [] → Se W (.slice p1 n1 c1) n1 f1) := fun W h => h1.chg h
  have H2 : Hid (∀ W, Chg w W [] → Se W (.slice p2 n2 c2) n2 f2) := fun W h => h2.chg h
  have HN : Hid (n0 + n1 + n2 ≤ 70368744177000) := hN
  have O0 : Own w w.heap.size (.slice none 0 0) 0 (fun _ => 0) := Own.nil _ _ _
  clear h0 h1 h2 hN
  go_enter Tryd.func65, Tryd.ntmps65
  go_upto_region 3 with (refine append_e rfl (.tmp 8) (.tmp 9) rfl w.heap.size (.slice none 0 0) (.slice p0 n0 c0) 0 n0 (fun _ => 0) f0 rfl rfl O0 H0.out (by have := HN.out; omega) (Nat.le_refl _) ?_; intro a1 w1 O1 k1)
  rw [Nat.zero_add, cat_zero] at O1
  replace k1 : Chg w w1 [] := k1
  obtain ⟨pa, ca, rfl⟩ := O1.len
  go_upto_region 4 with (refine append_e rfl (.tmp 11) (.tmp 12) rfl w.heap.size (.slice pa n0 ca) (.slice p1 n1 c1) n0 n1 f0 f1 rfl rfl O1 (H1.out w1 k1) (by have := HN.out; omega) k1.size ?_; intro a2 w2 O2 k2)
  have C2 : Chg w w2 [] := k1.trans k2 (fun x hx => Or.inr (O1.ob_ge x hx).1)
  obtain ⟨T, hT⟩ : ∃ z, n0 + n1 = z := ⟨_, rfl⟩
  have HT : Hid (n0 + n1 = T) := hT
  rw [hT] at O2
  clear hT O1 k1 k2
  obtain ⟨pb, cb, rfl⟩ := O2.len
  go_wp2_with (refine append_e rfl (.tmp 14) (.tmp 15) rfl w.heap.size (.slice pb T cb) (.slice p2 n2 c2) T n2 (cat f0 n0 f1) f2 rfl rfl O2 (H2.out w2 C2) (by have := HN.out; have := HT.out; omega) C2.size ?_; intro a3 w3 O3 k3)
  rw [← HT.out] at O3
  go_ret
  exact ⟨_, rfl, O3, C2.trans k3 (fun x hx => Or.inr (O2.ob_ge x hx).1)⟩
theorem rC_setv (K V : Nat → Nat) (d i : Nat) (hi : i < 64) (x : Nat) : (rC K V d).setIfInBounds (64 + i) (.int .u8 (x : Int)) = rC K (up V i x) d := by
  apply Array.ext_getElem?
  intro j
  rw [Array.getElem?_setIfInBounds, rC_size, rC_at, rC_at]
  by_cases h : 64 + i = j
  · subst h
    rw [if_pos rfl, if_pos (by omega), if_neg (by omega), if_pos (by omega)]
    unfold up
    rw [if_pos (by omega)]
  · rw [if_neg h]
    by_cases h1 : j < 64
    · rw [if_pos h1, if_pos h1]
    · rw [if_neg h1, if_neg h1]
      by_cases h2 : j < 128
      · rw [if_pos h2, if_pos h2]
        unfold up
        rw [if_neg (by omega)]
      · rw [if_neg h2, if_neg h2]
theorem rC_setd (K V : Nat → Nat) (d e : Nat) : (rC K V d).setIfInBounds 128 (.int .i64 (e : Int)) = rC K V e := by
  apply Array.ext_getElem?
  intro j
  rw [Array.getElem?_setIfInBounds, rC_size, rC_at, rC_at]
  by_cases h : 128 = j
  · subst h
    rw [if_pos rfl, if_pos (by omega), if_neg (by omega), if_neg (by omega), if_pos rfl]
  · rw [if_neg h]
    by_cases h1 : j < 64
    · rw [if_pos h1, if_pos h1]
    · rw [if_neg h1, if_neg h1]
      by_cases h2 : j < 128
      · rw [if_pos h2, if_pos h2]
      · rw [if_neg h2, if_neg h2, if_neg (by omega), if_neg (by omega)]
theorem rC_eq {K V V' : Nat → Nat} {d : Nat} (h : ∀ i, i < 64 → V i = V' i) : rC K V d = rC K V' d := by
  unfold rC
  rw [yC_eq h]
theorem builtRG : Tryd.prog.built 76 [] = some (rC (fun _ => 0) (fun _ => 0) 0) := by kernel_rfl
/-- The first i of 64 are 1. -/
def v1 (i : Nat) : Nat → Nat := fun j => if j < i then 1 else 0
theorem v1_up (i : Nat) : up (v1 i) i 1 = v1 (i + 1) := by
  funext j
  unfold up v1
  by_cases h : j = i
  · subst h; rw [if_pos rfl, if_pos (by omega)]
  · rw [if_neg h]
    by_cases h2 : j < i
    · rw [if_pos h2, if_pos (by omega)]
    · rw [if_neg h2, if_neg (by omega)]
set_option maxHeartbeats 4000000 in
set_option maxRecDepth 100000 in
theorem New_rno (v0 v1 v2 : Value) (n0 : Nat) (f0 : Nat → Nat) (w : World) (h0 : Se w v0 n0 f0) (hn : n0 < 32) :
    Calls Tryd.prog 21 #[v0, v1, v2] w fun e w' => e = .returned (.tuple #[.pointer none, .int .i64 111]) ∧ w' = w := by
  obtain ⟨p, c, rfl⟩ := h0.form
  have hI : (n0 : Int) < 32 := by omega
  clear hn h0
  go_enter Tryd.func21, Tryd.ntmps21
  go_wp2_with fail
  go_ret2
  exact ⟨rfl, rfl⟩
set_option maxHeartbeats 8000000 in
set_option maxRecDepth 100000 in
theorem New_rok (v0 v1' v2 : Value) (n0 n1 n2 : Nat) (f0 f1 f2 : Nat → Nat) (w : World) (h0 : Se w v0 n0 f0) (h1 : Se w v1' n1 f1) (h2 : Se w v2 n2 f2) (hn : 32 ≤ n0) (hN : n0 + n1 + n2 ≤ 70368744177000) :
    Calls Tryd.prog 21 #[v0, v1', v2] w fun e w' => ∃ g, e = .returned (.tuple #[.pointer (some ⟨g, 0, none⟩), .int .i64 0]) ∧ w.heap.size ≤ g ∧ Chg w w' [] ∧ Blk w' g (rC (nK n0 n1 n2 f0 f1 f2) (nV n0 n1 n2 f0 f1 f2) 0) 76 := by
  obtain ⟨p0, c0, rfl⟩ := h0.form
  obtain ⟨p1, c1, rfl⟩ := h1.form
  obtain ⟨p2, c2, rfl⟩ := h2.form
  have HS : Hid (∀ W, Chg w W [] → Se W (.slice p0 n0 c0) n0 f0 ∧ Se W (.slice p1 n1 c1) n1 f1 ∧ Se W (.slice p2 n2 c2) n2 f2) := fun W h => ⟨h0.chg h, h1.chg h, h2.chg h⟩
  have HN : Hid (n0 + n1 + n2 ≤ 70368744177000) := hN
  have hI : ¬ (n0 : Int) < 32 := by omega
  obtain ⟨KN, hKN⟩ : ∃ z, nK n0 n1 n2 f0 f1 f2 = z := ⟨_, rfl⟩
  obtain ⟨VN, hVN⟩ : ∃ z, nV n0 n1 n2 f0 f1 f2 = z := ⟨_, rfl⟩
  have HKN : Hid (s2K (fun _ => 0) (fun _ => 1) (n0 + n1 + n2) (cat (cat f0 n0 f1) (n0 + n1) f2) = KN ∧ s2V (fun _ => 0) (fun _ => 1) (n0 + n1 + n2) (cat (cat f0 n0 f1) (n0 + n1) f2) = VN) := ⟨hKN, hVN⟩
  rw [hKN, hVN]
  obtain ⟨RC, hRC⟩ : ∃ z, rC (fun _ => 0) (fun _ => 0) 0 = z := ⟨_, rfl⟩
  have HRC : Hid (rC (fun _ => 0) (fun _ => 0) 0 = RC) := hRC
  have HBR : Hid (Tryd.prog.built 76 [] = some RC) := by show _ = _; rw [← hRC]; exact builtRG
  clear h0 h1 h2 hn hN hKN hVN hRC
  go_enter Tryd.func21, Tryd.ntmps21
  go_upto_region 4 with (first
    | (have _h := BG; fail)
    | (refine wpList_build_c rfl 76 _ rfl RC (by go_simp; exact HBR.out) ?_)
    | (with_reducible refine box_w rfl 76 _ rfl RC rfl ?_; intro g w1 hg BG k1))
  rw [← HRC.out] at BG
  have B0 : Blk w1 g (rC (fun _ => 0) (v1 0) 0) 76 := BG.to (rC_eq fun i _ => by unfold v1; rw [if_neg (by omega)])
  have HG : Hid (w.heap.size ≤ g) := hg
  clear BG hg
  go_wp2_with fail
  go_loopw [9] (fun t wr => ∃ i : Nat, i ≤ 64 ∧ t = .int .i64 (i : Int) ∧ Blk wr g (rC (fun _ => 0) (v1 i) 0) 76 ∧ Chg w wr []) (fun t _ => (64 - intOf t).toNat)
  case atStart => exact ⟨0, by omega, rfl, B0, k1⟩
  case round =>
    clear B0 k1
    obtain ⟨i, hi, rfl, B, C⟩ := hrel
    by_cases h8 : i < 64
    · have hI2 : (i : Int) < 64 := by omega
      have hI0 : (0 : Int) ≤ (i : Int) := by omega
      have e1 : IntKind.i64.wrap ((i : Int) + 1) = (i : Int) + 1 := by rw [IntKind.wrap_i64]; omega
      have cx := (B.cell (64 + i)).trans (rC_hi _ _ _ i h8)
      have fx := B.frozen (64 + i)
      have B2 := (B.setCell (64 + i) (.int .u8 ((1 : Nat) : Int))).to ((rC_setv _ _ _ i h8 1).trans (by rw [v1_up]))
      have C2 : Chg w (wr.setCell ⟨g, 64 + i, none⟩ (.int .u8 ((1 : Nat) : Int))) [] := C.setNew HG.out (64 + i) _
      have HI : Hid (i < 64 ∧ i + 1 ≤ 64) := ⟨h8, by omega⟩
      clear hi h8
      go_wp2_with fail
      exact ⟨⟨i + 1, HI.out.2, by go_num, B2, C2⟩, by have := HI.out; simp [intOf]; omega⟩
    · have hI2 : ¬ (i : Int) < 64 := by omega
      have hi64 : i = 64 := by omega
      have B1 : Blk wr g (rC (fun _ => 0) (fun _ => 1) 0) 76 := B.to (rC_eq fun j hj => by unfold v1; rw [if_pos (by omega)])
      have HGW : Hid (g < wr.heap.size) := B.lt
      clear hi h8 hi64 B
      go_wp2_with fail
      refine (joined_r _ _ _ n0 n1 n2 f0 f1 f2 wr (HS.out wr C).1 (HS.out wr C).2.1 (HS.out wr C).2.2 HN.out).mono ?_
      rintro e w2 ⟨v, rfl, O, k2⟩
      have B2 := B1.chg k2 (by simp)
      have SO : SeO g w2 v (n0 + n1 + n2) (cat (cat f0 n0 f1) (n0 + n1) f2) := Or.inl ⟨O.sl, O.off [g] (fun i hi => by have := HGW.out; simp at hi; omega)⟩
      have C2 := C.trans1 k2
      clear O k2 B1 C
      go_wp2_with fail
      refine (stir_r g (fun _ => 0) (fun _ => 1) 0 v _ _ w2 (fun _ _ => by omega) (fun _ _ => by omega) B2 SO HN.out).mono ?_
      rintro e w3 ⟨rfl, k3, B3⟩
      rw [HKN.out.1, HKN.out.2] at B3
      have C3 := C2.new k3 HG.out
      clear SO B2 C2 k3
      go_wp2_with fail
      go_ret2
      exact ⟨g, rfl, HG.out, C3, B3⟩
set_option maxHeartbeats 4000000 in
set_option maxRecDepth 100000 in
theorem Reseed_rno (g : Nat) (v0 v1' : Value) (n0 : Nat) (f0 : Nat → Nat) (w : World) (h0 : Se w v0 n0 f0) (hn : n0 < 32) : Calls Tryd.prog 25 #[.pointer (some ⟨g, 0, none⟩), v0, v1'] w fun e w' => e = .returned (.int .i64 111) ∧ w' = w := by
  obtain ⟨p, c, rfl⟩ := h0.form
  have hI : (n0 : Int) < 32 := by omega
  clear hn h0
  go_enter Tryd.func25, Tryd.ntmps25
  go_wp2_with fail
  go_ret
  exact ⟨rfl, rfl⟩
theorem cat_tail (F : Nat → Nat) (N : Nat) : cat F N (fun i => F (N + i)) = F := by
  funext i
  unfold cat
  by_cases h : i < N
  · rw [if_pos h]
  · rw [if_neg h]
    show F (N + (i - N)) = F i
    rw [show N + (i - N) = i by omega]
set_option maxHeartbeats 4000000 in
set_option maxRecDepth 100000 in
theorem Reseed_rok (g : Nat) (K V : Nat → Nat) (d : Nat) (v0 v1' : Value) (n0 n1 : Nat) (f0 f1 : Nat → Nat) (w : World) (hK : ∀ i, i < 64 → K i < 256) (hV : ∀ i, i < 64 → V i < 256) (B : Blk w g (rC K V d) 76) (h0 : SeO g w v0 n0 f0) (h1 : SeO g w v1' n1 f1) (hn : 32 ≤ n0) (hN : n0 + n1 ≤ 70368744177000) :
    Calls Tryd.prog 25 #[.pointer (some ⟨g, 0, none⟩), v0, v1'] w fun e w' => e = .returned (.int .i64 0) ∧ Chg w w' [g] ∧ Blk w' g (rC (s2K K V (n0 + n1) (cat f0 n0 f1)) (s2V K V (n0 + n1) (cat f0 n0 f1)) 0) 76 := by
  obtain ⟨p0, c0, rfl⟩ := h0.se.form
  obtain ⟨p1, c1, rfl⟩ := h1.se.form
  have H0 : Hid (Se w (.slice p0 n0 c0) n0 f0) := h0.se
  have H1 : Hid (Se w (.slice p1 n1 c1) n1 f1) := h1.se
  have HN : Hid (n0 + n1 ≤ 70368744177000) := hN
  have HKV : Hid ((∀ i, i < 64 → K i < 256) ∧ (∀ i, i < 64 → V i < 256)) := ⟨hK, hV⟩
  have HB : Hid (Blk w g (rC K V d) 76) := B
  have HGL : Hid (g < w.heap.size) := B.lt
  have hI : ¬ (n0 : Int) < 32 := by omega
  obtain ⟨K2, hK2⟩ : ∃ z, s2K K V (n0 + n1) (cat f0 n0 f1) = z := ⟨_, rfl⟩
  obtain ⟨V2, hV2⟩ : ∃ z, s2V K V (n0 + n1) (cat f0 n0 f1) = z := ⟨_, rfl⟩
  have HKE : Hid (s2K K V (n0 + n1) (cat f0 n0 f1) = K2 ∧ s2V K V (n0 + n1) (cat f0 n0 f1) = V2) := ⟨hK2, hV2⟩
  rw [hK2, hV2]
  clear h0 h1 hn hN hK hV B hK2 hV2
  go_enter Tryd.func25, Tryd.ntmps25
  go_wp2_with fail
  refine (joined_r _ _ _ n0 n1 0 f0 f1 (fun i => cat f0 n0 f1 (n0 + n1 + i)) w H0.out H1.out (se_nil _ _) (by have := HN.out; omega)).mono ?_
  rintro e w2 ⟨v, rfl, O, k2⟩
  rw [cat_tail, Nat.add_zero] at O
  have B2 := HB.out.chg k2 (by simp)
  have SO : SeO g w2 v (n0 + n1) (cat f0 n0 f1) := Or.inl ⟨O.sl, O.off [g] (fun i hi => by have := HGL.out; simp at hi; omega)⟩
  clear O
  go_wp2_with fail
  refine (stir_r g K V d v _ _ w2 HKV.out.1 HKV.out.2 B2 SO HN.out).mono ?_
  rintro e w3 ⟨rfl, k3, B3⟩
  rw [HKE.out.1, HKE.out.2] at B3
  have C3 : Chg w w3 [g] := (k2.wide (l := [g])).trans1 k3
  have cx := (B3.cell 128).trans (rC_d K2 V2 d)
  have fx := B3.frozen 128
  have B4 := (B3.setCell 128 (.int .i64 ((0 : Nat) : Int))).to (rC_setd K2 V2 d 0)
  have C4 := C3.setIn (k := g) (by simp) 128 (.int .i64 ((0 : Nat) : Int))
  clear SO B2 k3 k2 C3
  go_wp2_with fail
  go_ret
  exact ⟨rfl, C4, B4⟩
/-- How long a slice is. -/
def vlen : Value → Nat
  | .slice _ n _ => n
  | _ => 0
theorem own_cap {w : World} {base : Nat} {v : Value} {n : Nat} {f : Nat → Nat} (O : Own w base v n f) : vlen v = n := by
  obtain ⟨p, c, rfl⟩ := O.len
  rfl
set_option maxHeartbeats 4000000 in
set_option maxRecDepth 100000 in
theorem Draw_rno (g : Nat) (K V : Nat → Nat) (d : Nat) (n : Int) (ev : Value) (w : World) (B : Blk w g (rC K V d) 76) (hd : d ≤ 4096) (hr : ¬ rfs n d = 0) : Calls Tryd.prog 23 #[.pointer (some ⟨g, 0, none⟩), .int .i64 n, ev] w fun e w' => e = .returned (.tuple #[.slice none 0 0, .int .i64 (rfs n d)]) ∧ w' = w := by
  unfold rfs at hr ⊢
  by_cases h1 : n < 0
  · rw [if_pos h1]
    clear hr
    go_enter Tryd.func23, Tryd.ntmps23
    go_wp2_with fail
    go_ret2
    exact ⟨rfl, rfl⟩
  · rw [if_neg h1] at hr ⊢
    by_cases h2 : 65536 < n
    · rw [if_pos h2]
      clear hr
      go_enter Tryd.func23, Tryd.ntmps23
      go_wp2_with fail
      go_ret2
      exact ⟨rfl, rfl⟩
    · rw [if_neg h2] at hr ⊢
      by_cases h3 : d = 4096
      · rw [if_pos h3]
        have cx := (B.cell 128).trans (rC_d K V d)
        have hI : (4096 : Int) ≤ (d : Int) := by omega
        clear hr h3
        go_enter Tryd.func23, Tryd.ntmps23
        go_wp2_with fail
        go_ret2
        exact ⟨rfl, rfl⟩
      · rw [if_neg h3] at hr
        exact absurd rfl hr
set_option maxHeartbeats 16000000 in
set_option maxRecDepth 100000 in
theorem Draw_rok (g : Nat) (K V : Nat → Nat) (d N : Nat) (ev : Value) (m : Nat) (f : Nat → Nat) (w : World) (hK : ∀ i, i < 64 → K i < 256) (hV : ∀ i, i < 64 → V i < 256) (B : Blk w g (rC K V d) 76) (hev : SeO g w ev m f) (hm : m ≤ 70368744177000) (hN : N ≤ 65536) (hd : d < 4096) :
    Calls Tryd.prog 23 #[.pointer (some ⟨g, 0, none⟩), .int .i64 (N : Int), ev] w fun e w' => ∃ v, e = .returned (.tuple #[v, .int .i64 0]) ∧ Ny w' v N (dO K V m f) ∧ Chg w w' [g] ∧ Blk w' g (rC (dK K V m f N) (dV K V m f N) (d + 1)) 76 := by
  obtain ⟨p, c, rfl⟩ := hev.se.form
  have HEV : Hid (SeO g w (.slice p m c) m f ∧ m ≤ 70368744177000) := ⟨hev, hm⟩
  have HGL : Hid (g < w.heap.size) := B.lt
  have HN : Hid (N ≤ 65536 ∧ d < 4096) := ⟨hN, hd⟩
  have HKV : Hid ((∀ i, i < 64 → K i < 256) ∧ (∀ i, i < 64 → V i < 256)) := ⟨hK, hV⟩
  have HEL : Hid (∀ i, i < 64 → eK K V m f i < 256) := eK_lt hK m f
  have HVL : Hid (∀ i, i < 64 → eV K V m f i < 256) := eV_lt hV m f
  have HE0 : Hid (m = 0 → K = eK K V m f ∧ V = eV K V m f) := fun h => by unfold eK eV; rw [if_pos h, if_pos h]; exact ⟨rfl, rfl⟩
  have HE1 : Hid (¬ m = 0 → s2K K V m f = eK K V m f ∧ s2V K V m f = eV K V m f) := fun h => by unfold eK eV; rw [if_neg h, if_neg h]; exact ⟨rfl, rfl⟩
  have HO : Hid (dO K V m f = jn (fun i => vs (eK K V m f) (eV K V m f) (i + 1))) := rfl
  have HDK : Hid (s2K (eK K V m f) (vs (eK K V m f) (eV K V m f) ((N + 63) / 64)) m f = dK K V m f N) := rfl
  have HDV : Hid (s2V (eK K V m f) (vs (eK K V m f) (eV K V m f) ((N + 63) / 64)) m f = dV K V m f N) := rfl
  obtain ⟨EK, hEK⟩ : ∃ z, eK K V m f = z := ⟨_, rfl⟩
  obtain ⟨EV, hEV⟩ : ∃ z, eV K V m f = z := ⟨_, rfl⟩
  obtain ⟨DK, hDK⟩ : ∃ z, dK K V m f N = z := ⟨_, rfl⟩
  obtain ⟨DV, hDV⟩ : ∃ z, dV K V m f N = z := ⟨_, rfl⟩
  rw [hEK] at HEL
  rw [hEV] at HVL
  rw [hEK, hEV] at HE0 HE1 HO HDK HDV
  rw [hDK] at HDK
  rw [hDV] at HDV
  rw [hDK, hDV]
  have hI0 : ¬ (N : Int) < 0 := by omega
  have hI1 : ¬ (65536 : Int) < (N : Int) := by omega
  have hI2 : ¬ (4096 : Int) ≤ (d : Int) := by omega
  have HEK : Hid (∀ i, i < 64 → EK i < 256) := HEL.out
  have cd := (B.cell 128).trans (rC_d K V d)
  have HB : Hid (Blk w g (rC K V d) 76) := B
  obtain ⟨ib, hib, hibz, hibs, _⟩ := bytesRow
  clear hev hm hK hV B hN hd hEK hEV hDK hDV
  go_enter Tryd.func23, Tryd.ntmps23
  go_upto_if 20 with fail
  go_cut [] (fun wc => Blk wc g (rC EK EV d) 76 ∧ Chg w wc [g])
  case first =>
    by_cases hz : m = 0
    · have hI : ¬ (0 : Int) < (m : Int) := by omega
      have B1 : Blk w g (rC EK EV d) 76 := by have e := HE0.out hz; rw [← e.1, ← e.2]; exact HB.out
      clear hz HE0 HE1
      go_wp2_with fail
      go_meet
      case rel => exact ⟨B1, Chg.refl _ _⟩
    · have hI : (0 : Int) < (m : Int) := by omega
      have HE : Hid (s2K K V m f = EK ∧ s2V K V m f = EV) := HE1.out hz
      clear hz HE0 HE1
      go_wp2_with fail
      refine (stir_r g K V d _ m f w HKV.out.1 HKV.out.2 HB.out HEV.out.1 HEV.out.2).mono ?_
      rintro e w1 ⟨rfl, k1, B1⟩
      rw [HE.out.1, HE.out.2] at B1
      go_wp2_with fail
      go_meet
      case rel => exact ⟨B1, k1⟩
  case rest =>
    obtain ⟨B1, C1⟩ := hcut
    clear HE0 HE1 cd HB
    go_wp2_with fail
    go_loopw [8] (fun tu wr => ∃ j : Nat, (j = 0 ∨ 64 * (j - 1) < N) ∧ Own wr w.heap.size tu (64 * j) (dO K V m f) ∧ Blk wr g (rC EK (vs EK EV j) d) 76 ∧ Chg w wr [g]) (fun tu _ => (65537 + 64 - vlen tu))
    case atStart => exact ⟨0, Or.inl rfl, Own.nil _ _ _, B1, C1⟩
    case round =>
      clear B1 C1
      obtain ⟨j, hj, OU, BG, C⟩ := hrel
      obtain ⟨pu, cu, rfl⟩ := OU.len
      have HJ : Hid (j = 0 ∨ 64 * (j - 1) < N) := hj
      have HJB : Hid (j ≤ 1025) := by have := HN.out; show j ≤ 1025; omega
      by_cases h8 : 64 * j < N
      · have HJ8 : Hid (64 * j < N) := h8
        have HVJ : Hid (∀ i, i < 64 → vs EK EV j i < 256) := vs_lt HVL.out j
        have HCJ : Hid (∀ i, i < 64 * j + 64 → cat (jn (fun i => vs EK EV (i + 1))) (64 * j) (vs EK EV (j + 1)) i = jn (fun i => vs EK EV (i + 1)) i) := cat_jn (fun i => vs EK EV (i + 1)) j
        have HVE : Hid (mac 64 EK 64 (vs EK EV j) = vs EK EV (j + 1)) := rfl
        have HV1L : Hid (∀ i, i < 64 → vs EK EV (j + 1) i < 256) := vs_lt HVL.out (j + 1)
        obtain ⟨V1, hV1⟩ : ∃ z, vs EK EV (j + 1) = z := ⟨_, rfl⟩
        have HV1E : Hid (V1 = vs EK EV (j + 1)) := hV1.symm
        rw [hV1] at HCJ HVE HV1L
        obtain ⟨VJ, hVJ⟩ : ∃ z, vs EK EV j = z := ⟨_, rfl⟩
        rw [hVJ] at HVJ HVE BG
        have HDJ : Hid (dO K V m f = jn (fun i => vs EK EV (i + 1))) := HO.out
        obtain ⟨T, hT⟩ : ∃ z, 64 * j = z := ⟨_, rfl⟩
        have HT : Hid (64 * j = T) := hT
        have hI : (T : Int) < (N : Int) := by omega
        have HLT : Hid (T < N ∧ N ≤ 65536) := by have := HN.out; exact ⟨by omega, this.1⟩
        rw [hT] at OU ⊢
        have HO' : Hid (Own wr w.heap.size (.slice pu T cu) T (dO K V m f)) := OU
        clear hj h8 hV1 hVJ hT OU
        go_upto_region 11 with fail
        refine wp_region_held_drew (S := fun w' => Chg wr w' [g]) (by kernel_rfl) ((Chg.refl wr _).drew) (fun hHeld => ?_)
        refine take_val (v := ?_) 0 (some 28) rfl (by kernel_rfl) (by kernel_rfl) (by kernel_rfl) (fun _ _ _ h => h) rfl rfl (fun w hSw => ?_) hHeld ?_
        rotate_left
        · (go_simp; try with_reducible rfl)
        try simp only [Act.put, List.setIfInBounds_toArray, List.set_cons_zero, List.set_cons_succ]
        refine take_val (v := ?_) 1 (some 29) rfl (by kernel_rfl) (by kernel_rfl) (by kernel_rfl) (fun _ _ _ h => h) rfl rfl (fun w hSw => ?_) hHeld ?_
        rotate_left
        · (go_simp; try with_reducible rfl)
        try simp only [Act.put, List.setIfInBounds_toArray, List.set_cons_zero, List.set_cons_succ]
        refine take_val (v := ?_) 2 (some 30) rfl (by kernel_rfl) (by kernel_rfl) (by kernel_rfl) (fun _ _ _ h => h) rfl rfl (fun w hSw => ?_) hHeld ?_
        rotate_left
        · (go_simp; try with_reducible rfl)
        try simp only [Act.put, List.setIfInBounds_toArray, List.set_cons_zero, List.set_cons_succ]
        refine take_val (v := (.pointer (some ⟨g, 0, none⟩))) 3 (some 31) rfl (by kernel_rfl) (by kernel_rfl) (by kernel_rfl) (fun _ _ _ h => h) rfl rfl (fun w hSw => ?_) hHeld ?_
        · (go_simp; try with_reducible rfl)
        try simp only [Act.put, List.setIfInBounds_toArray, List.set_cons_zero, List.set_cons_succ]
        refine take_val (v := (.slice (some ⟨g, 0, none⟩) 64 64)) 4 (some 32) rfl (by kernel_rfl) (by kernel_rfl) (by kernel_rfl) (fun _ _ _ h => h) rfl rfl (fun w hSw => ?_) hHeld ?_
        · (go_simp; try with_reducible rfl)
        try simp only [Act.put, List.setIfInBounds_toArray, List.set_cons_zero, List.set_cons_succ]
        refine take_val (v := ?_) 5 (some 33) rfl (by kernel_rfl) (by kernel_rfl) (by kernel_rfl) (fun _ _ _ h => h) rfl rfl (fun w hSw => ?_) hHeld ?_
        rotate_left
        · (go_simp; try with_reducible rfl)
        try simp only [Act.put, List.setIfInBounds_toArray, List.set_cons_zero, List.set_cons_succ]
        refine take_val (v := ?_) 6 (some 34) rfl (by kernel_rfl) (by kernel_rfl) (by kernel_rfl) (fun _ _ _ h => h) rfl rfl (fun w hSw => ?_) hHeld ?_
        rotate_left
        · (go_simp; try with_reducible rfl)
        try simp only [Act.put, List.setIfInBounds_toArray, List.set_cons_zero, List.set_cons_succ]
        refine take_val (v := (.pointer (some ⟨g, 64, none⟩))) 7 (some 35) rfl (by kernel_rfl) (by kernel_rfl) (by kernel_rfl) (fun _ _ _ h => h) rfl rfl (fun w hSw => ?_) hHeld ?_
        · (go_simp; try with_reducible rfl)
        try simp only [Act.put, List.setIfInBounds_toArray, List.set_cons_zero, List.set_cons_succ]
        refine take_val (v := (.slice (some ⟨g, 64, none⟩) 64 64)) 8 (some 36) rfl (by kernel_rfl) (by kernel_rfl) (by kernel_rfl) (fun _ _ _ h => h) rfl rfl (fun w hSw => ?_) hHeld ?_
        · (go_simp; try with_reducible rfl)
        try simp only [Act.put, List.setIfInBounds_toArray, List.set_cons_zero, List.set_cons_succ]
        refine wpAnyH_ready (rs := [9]) (by kernel_rfl) (by simp) ?_
        refine AllReadyH.cons (o := _) rfl (fun K' hK => ?_) ?_
        ·
          rw [if_pos (by rfl)]
          refine wp_bsl_o 23 22 1 #[(0, .tmp 36)] rfl [(0, .slice (some ⟨g, 64, none⟩) 64 64)] (by simp [Act.eval]) #[.slice (some ⟨g, 64, none⟩) 64 64] ib (.slice none 0 0) Tryd.underlying23 hib hibz 1 hibs (by omega) (by omega) (fillS1 _ _ _) ?_
          intro lb v3 hlb BL k3
          change K' (Act.put _ (some 37) _) _
          refine hK.out _ _ (hHeld.trans k3 (by simp)) (fun hHeld => ?_)
          clear hK K'
          try simp only [Act.put, List.setIfInBounds_toArray, List.set_cons_zero, List.set_cons_succ]
          replace BG := BG.drew.chg k3 (by simp)
          clear k3
          refine wpAnyH_ready (rs := [10]) (by kernel_rfl) (by simp) ?_
          refine AllReadyH.cons (o := _) rfl (fun K' hK => ?_) ?_
          ·
            go_simp
            have SK := (rC_K BG HEK.out).sl 64 (by omega) (by omega)
            have SV := (rC_V BG HVJ.out).sl 64 (by omega) (by omega)
            refine (MAC_r _ 64 EK _ 1 _ _ _ _ (Or.inl SK) (by omega) (Ps.mk1 BL (Or.inl SV)) (by rw [cN_1]; omega)).mono ?_
            rintro e v4 ⟨rfl, k4⟩
            rw [cN_1, cF_1, HVE.out]
            go_wp2_with fail
            refine hK.out _ _ (hHeld.trans k4 (by simp)) (fun hHeld => ?_)
            clear hK K'
            try simp only [Act.put, List.setIfInBounds_toArray, List.set_cons_zero, List.set_cons_succ]
            replace BG := BG.chg k4 (by simp)
            clear k4
            refine take_val (v := ?_) 11 (some 39) rfl (by kernel_rfl) (by kernel_rfl) (by kernel_rfl) (fun _ _ _ h => h) rfl rfl (fun w hSw => ?_) hHeld ?_
            rotate_left
            · (go_simp; try with_reducible rfl)
            try simp only [Act.put, List.setIfInBounds_toArray, List.set_cons_zero, List.set_cons_succ]
            refine take_val (v := (.pointer (some ⟨g, 64, none⟩))) 12 (some 40) rfl (by kernel_rfl) (by kernel_rfl) (by kernel_rfl) (fun _ _ _ h => h) rfl rfl (fun w hSw => ?_) hHeld ?_
            · (go_simp; try with_reducible rfl)
            try simp only [Act.put, List.setIfInBounds_toArray, List.set_cons_zero, List.set_cons_succ]
            refine wpAnyH_ready (rs := [13]) (by kernel_rfl) (by simp) ?_
            refine AllReadyH.cons (o := _) rfl (fun K' hK => ?_) ?_
            ·
              rw [if_pos (by rfl)]
              refine wp_store_rV BG _ _ rfl V1 rfl rfl ?_
              intro v5 BS k5
              refine hK.out _ _ (hHeld.trans1 k5) (fun hHeld => ?_)
              clear hK K'
              try simp only [Act.put, List.setIfInBounds_toArray, List.set_cons_zero, List.set_cons_succ]
              clear k5
              refine wpAnyH_done (by kernel_rfl) ?_ _
              obtain ⟨w6, rfl⟩ : ∃ z, z = v5 := ⟨v5, rfl⟩
              have C6 : Chg w w6 [g] := C.trans1 hHeld
              have O6 : Own w6 w.heap.size (.slice pu T cu) T (dO K V m f) := HO'.out.chg hHeld (fun x hx hy => by have := (HO'.out.ob_ge x hx).1; have := HGL.out; simp at hy; omega)
              have SV6 := (rC_V BS HV1L.out).sl 64 (by omega) (by omega)
              clear hHeld BG BL SK SV C
              go_wp2_with (refine append_y rfl (.tmp 41) (.tmp 45) rfl w.heap.size (.slice pu T cu) (.slice (some ⟨g, 64, none⟩) 64 64) T 64 (dO K V m f) V1 rfl rfl O6 SV6 (by have := HT.out; have := HJB.out; omega) C6.size ?_; intro a1 w7 O7 k7)
              have O7' : Own w7 w.heap.size a1 (64 * (j + 1)) (dO K V m f) := by
                have q := O7
                rw [← HT.out] at q
                have q2 := q.cong (g := dO K V m f) (fun i hi => by rw [HDJ.out]; exact HCJ.out i hi)
                exact (show 64 * (j + 1) = 64 * j + 64 by omega) ▸ q2
              have B7 := BS.chg k7 (O6.nt BS (by decide))
              have C7 : Chg w w7 [g] := C6.trans k7 (fun x hx => Or.inr (O6.ob_ge x hx).1)
              rw [HV1E.out] at B7
              exact ⟨⟨j + 1, Or.inr (by have := HJ8.out; omega), O7', B7, C7⟩, by have := HLT.out; have q := own_cap O7'; have := HT.out; show 65537 + 64 - vlen a1 < 65537 + 64 - T; rw [q]; omega⟩
            exact AllReadyH.nil
          exact AllReadyH.nil
        exact AllReadyH.nil
      · have HE : Hid (N ≤ 64 * j) := by show N ≤ 64 * j; omega
        have HJE : Hid (j = (N + 63) / 64) := by show j = (N + 63) / 64; omega
        obtain ⟨T, hT⟩ : ∃ z, 64 * j = z := ⟨_, rfl⟩
        have hI : ¬ (T : Int) < (N : Int) := by omega
        rw [hT] at OU HE ⊢
        have HTC : Hid (T ≤ cu) := by
          rcases OU.sl with ⟨q1, q2⟩ | ⟨g, o, c, e, q1, _⟩
          · simp only [Value.slice.injEq] at q2; show T ≤ cu; omega
          · simp only [Value.slice.injEq] at e; show T ≤ cu; omega
        have h3 : (0 : Int) ≤ (N : Int) := by omega
        have h4 : (N : Int) ≤ (cu : Int) := by have := HTC.out; have := HE.out; omega
        have HS : Hid (Ny wr (.slice pu N cu) N (dO K V m f)) := OU.ny HE.out
        have HVJ : Hid (∀ i, i < 64 → vs EK EV j i < 256) := vs_lt HVL.out j
        rw [← HJE.out] at HDK HDV
        obtain ⟨VJ, hVJ⟩ : ∃ z, vs EK EV j = z := ⟨_, rfl⟩
        rw [hVJ] at HVJ BG HDK HDV
        clear hT hj h8 OU hVJ HJE
        go_wp2_with fail
        refine (stir_r g EK VJ d _ m f wr HEL.out HVJ.out BG (HEV.out.1.chg C) HEV.out.2).mono ?_
        rintro e w2 ⟨rfl, k2, B2⟩
        rw [HDK.out, HDV.out] at B2
        have N2 := HS.out.off k2 (fun q C' Bq hm => BG.ne Bq (by decide) (by simpa using hm : q = g).symm)
        have C2 := C.trans1 k2
        have cx := (B2.cell 128).trans (rC_d DK DV d)
        have fx := B2.frozen 128
        have e1 : IntKind.i64.wrap ((d : Int) + 1) = ((d + 1 : Nat) : Int) := by have := HN.out; rw [IntKind.wrap_i64]; omega
        have B3 := (B2.setCell 128 (.int .i64 ((d + 1 : Nat) : Int))).to (rC_setd DK DV d (d + 1))
        have K3 : Chg w2 (w2.setCell ⟨g, 128, none⟩ (.int .i64 ((d + 1 : Nat) : Int))) [g] := (Chg.refl w2 [g]).setIn (by simp) 128 _
        have N3 := N2.off K3 (fun q C' Bq hm => B2.ne Bq (by decide) (by simpa using hm : q = g).symm)
        have C3 := C2.trans1 K3
        clear k2 BG C C2 N2 K3
        go_wp2_with fail
        go_ret2
        exact ⟨_, rfl, N3, C3, B3⟩
theorem Draw_r (g : Nat) (K V : Nat → Nat) (d : Nat) (n : Int) (ev : Value) (m : Nat) (f : Nat → Nat) (w : World) (hK : L64 K) (hV : L64 V) (hd : d ≤ 4096) (B : Blk w g (rC K V d) 76) (hev : SeO g w ev m f) (hm : m ≤ 70368744177000) :
    Calls Tryd.prog 23 #[.pointer (some ⟨g, 0, none⟩), .int .i64 n, ev] w fun e w' => ∃ v, e = .returned (.tuple #[v, .int .i64 (rfs n d)]) ∧ Ny w' v (aN n d) (dO K V m f) ∧ Chg w w' [g] ∧ Blk w' g (rC (aK K V d n m f) (aV K V d n m f) (aD n d)) 76 := by
  by_cases hr : rfs n d = 0
  · obtain ⟨e1, e2, e3⟩ := rfs_0 hr hd
    unfold aN aK aV aD
    rw [if_pos hr, if_pos hr, if_pos hr, if_pos hr, hr]
    obtain ⟨N, hN⟩ : ∃ N, n.toNat = N := ⟨_, rfl⟩
    rw [hN] at e1 e2 ⊢
    subst e1
    exact Draw_rok g K V d N ev m f w hK hV B hev hm e2 e3
  · unfold aN aK aV aD
    rw [if_neg hr, if_neg hr, if_neg hr, if_neg hr]
    refine (Draw_rno g K V d n ev w B hd hr).mono ?_
    rintro e w' ⟨rfl, rfl⟩
    exact ⟨_, rfl, Or.inl ⟨rfl, rfl⟩, Chg.refl _ _, B⟩
/-- The program's own Draw, its bytes at the head of a block. -/
theorem Draw_y (g : Nat) (K V : Nat → Nat) (d : Nat) (n : Int) (ev : Value) (m : Nat) (f : Nat → Nat) (w : World) (hG : Gl w) (hg : 2 ≤ g) (hK : L64 K) (hV : L64 V) (hd : d ≤ 4096) (B : Blk w g (gC K V d) 141) (hev : SeO g w ev m f) :
    Calls Tryd.prog 22 #[.pointer (some ⟨g, 0, none⟩), .int .i64 n, ev] w fun e w' => ∃ v, e = .returned (.tuple #[v, .int .i64 (rfs n d)]) ∧ Ny w' v (aN n d) (dO K V m f) ∧ Chg w w' [g] ∧ Blk w' g (gC (aK K V d n m f) (aV K V d n m f) (aD n d)) 141 := by
  by_cases hr : rfs n d = 0
  · obtain ⟨e1, e2, e3⟩ := rfs_0 hr hd
    unfold aN aK aV aD
    rw [if_pos hr, if_pos hr, if_pos hr, if_pos hr, hr]
    obtain ⟨N, hN⟩ : ∃ N, n.toNat = N := ⟨_, rfl⟩
    rw [hN] at e1 e2 ⊢
    subst e1
    refine (Draw_ok g K V d N ev m f w hG hg hK hV B hev hev.se.le e2 e3).mono ?_
    rintro e w' ⟨ob, rfl, h1, h2, h3, h4⟩
    exact ⟨_, rfl, h2.ny (fun j _ => dO_lt _ _ _ _ _) (by omega), h3, h4⟩
  · unfold aN aK aV aD
    rw [if_neg hr, if_neg hr, if_neg hr, if_neg hr]
    refine (Draw_no g K V d n ev w B hr).mono ?_
    rintro e w' ⟨rfl, rfl⟩
    exact ⟨_, rfl, Or.inl ⟨rfl, rfl⟩, Chg.refl _ _, B⟩
end Go.Proofs.YthpfdnkcepfbaaaDoor
