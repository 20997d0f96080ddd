/- DrbgDraws: what its loop keeps; rimeref11's Random. -/
import Derived.Test.YthpfdnkcepfbaaaDoorDrG
import Derived.Test.YthpfdnkcepfbaaaDoorDr20
set_option linter.unusedVariables false
set_option linter.unusedSimpArgs false
set_option linter.unnecessarySimpa false
namespace Go.Proofs.YthpfdnkcepfbaaaDoor
open Go.RowKit

theorem eq_rn (f : Nat → Nat) (w : World) : (Op.equalIn 10000 69 (.agg (yC 32 f)) (.agg (yC 32 f))).run Tryd.prog w = .ok true w := (eq_rand f f w).trans (by rw [eq32_self])
set_option maxHeartbeats 4000000 in
set_option maxRecDepth 100000 in
theorem Random_r (g : Nat) (K V : Nat → Nat) (d : Nat) (w : World) (hK : L64 K) (hV : L64 V) (hd : d ≤ 4096) (B : Blk w g (rC K V d) 76) :
    Calls Tryd.prog 27 #[.pointer (some ⟨g, 0, none⟩)] w fun e w' => e = .returned (.tuple #[.agg (yC 32 (rO K V d)), .int .i64 (rfs 32 d)]) ∧ Chg w w' [g] ∧ Blk w' g (rC (aK K V d 32 0 (fun _ => 0)) (aV K V d 32 0 (fun _ => 0)) (aD 32 d)) 76 := by
  have HGL : Hid (g < w.heap.size) := B.lt
  have HD : Hid (∀ W, Chg w W [] → Calls Tryd.prog 23 #[.pointer (some ⟨g, 0, none⟩), .int .i64 32, .slice none 0 0] W fun e w' => ∃ v, e = .returned (.tuple #[v, .int .i64 (rfs 32 d)]) ∧ Ny w' v (aN 32 d) (dO K V 0 (fun _ => 0)) ∧ Chg W w' [g] ∧ Blk w' g (rC (aK K V d 32 0 (fun _ => 0)) (aV K V d 32 0 (fun _ => 0)) (aD 32 d)) 76) := fun W k => Draw_r g K V d 32 _ 0 (fun _ => 0) W hK hV hd (B.chg k (by simp)) (seo_nil _ _ _) (by omega)
  obtain ⟨N, hN⟩ : ∃ z, aN 32 d = z := ⟨_, rfl⟩
  obtain ⟨F, hF⟩ : ∃ z, dO K V 0 (fun _ => 0) = z := ⟨_, rfl⟩
  obtain ⟨E, hE⟩ : ∃ z, rfs 32 d = z := ⟨_, rfl⟩
  obtain ⟨C', hC⟩ : ∃ z, rC (aK K V d 32 0 (fun _ => 0)) (aV K V d 32 0 (fun _ => 0)) (aD 32 d) = z := ⟨_, rfl⟩
  have HN : Hid (N ≤ 32 ∧ N = Nat.min N 32) := by have := aN32 d; rw [hN] at this; exact ⟨this, by show N = min N 32; omega⟩
  have HR : Hid (lay (fun _ => 0) 0 N F = rO K V d) := by show lay (fun _ => 0) 0 N F = rO K V d; rw [← hN, ← hF]; rfl
  obtain ⟨RO, hRO⟩ : ∃ z, rO K V d = z := ⟨_, rfl⟩
  rw [hRO] at HR
  rw [hN, hF, hE, hC] at HD
  rw [hE, hC, hRO]
  clear hN hF hE hC hRO hK hV hd B
  go_enter Tryd.func27, Tryd.ntmps27
  go_upto_region 1 with (with_reducible refine alloc_w rfl 69 rfl (.agg (yC 32 (fun _ => 0))) zeroRand (yC 32 (fun _ => 0)) rfl ?_; intro rb w1 hrb BR k1)
  have HS : Hid (w.heap.size ≤ rb) := hrb
  go_wp2_with fail
  refine (HD.out w1 k1).mono ?_
  rintro e w3 ⟨v, rfl, S3, k3, B3⟩
  have HBE : Hid (Blk w3 g C' 76 ∧ rb < w3.heap.size ∧ w.heap.size ≤ w3.heap.size) := ⟨B3, Nat.lt_of_lt_of_le BR.lt k3.size, Nat.le_trans k1.size k3.size⟩
  have BR3 := BR.chg k3 (by have := HS.out; have := HGL.out; simp; omega)
  have K3 : Chg w w3 [g] := (k1.wide (l := [g])).trans1 k3
  obtain ⟨p, c, rfl⟩ := Se.form (Or.inl S3.sl)
  have HSV : Hid (Se w3 (.slice p N c) N F) := Or.inl S3.sl
  clear S3 B3 k3 k1 BR HD hrb
  go_wp2_with (first
    | (refine store_w BR6 rfl 69 _ _ (yC 32 RO) rfl rfl rfl (by rw [yC_size]; exact randInfo) (by rw [yC_size, yC_size]) (yC_one 32 _) ?_; intro w7 BR7 k7)
    | (with_reducible refine load_b BB6 69 (.tmp 6) Tryd.underlying69 ?_ ?_ ?_ ?_ ?_ ?_
       · rfl
       · rfl
       · rfl
       · rfl
       · (rw [yC_size]; exact randInfo))
    | (refine copy_z rfl (.tmp 12) (.tmp 13) 22 22 rfl 5 Tryd.underlying22 u8Info bb 0 32 32 p N c rfl rfl #[] 32 (fun _ => 0) #[] 69 BB.seg 0 N F (fun _ => rfl) HN.out.2 (fun h0 => by obtain ⟨g, o, e, hb⟩ := (HSV.out.chg k4).src h0; exact ⟨g, o, e, hb.cell⟩) (by have := HN.out.1; omega) ?_; intro w6 BB6 k6; have BR6 := (BR3.chg k4 (by simp)).chg k6 (by have := HBE.out; simp; omega); replace BB6 := BB6.unseg; rw [HR.out] at BB6; simp only [Act.put, List.setIfInBounds_toArray, List.set_cons_zero, List.set_cons_succ])
    | (with_reducible refine alloc_w rfl 69 rfl (.agg (yC 32 (fun _ => 0))) zeroRand (yC 32 (fun _ => 0)) rfl ?_; intro bb w4 hbb BB k4))
  have C7 : Chg w w7 [g] := (((K3.trans (k4.wide (l := [])) (by simp)).new k6 (by have := HBE.out; omega)).new k7 HS.out)
  have B7 := ((HBE.out.1.chg k4 (by simp)).chg k6 (by have := HBE.out; have := HGL.out; have := HBE.out.1.lt; simp; omega)).chg k7 (by have := HS.out; have := HGL.out; simp; omega)
  exact bodyPost_ret (results_cell_tmp Tryd.results27 _ _ rb 69 (yC 32 RO) _ (.int .i64 E) rfl rfl BR7 Tryd.underlying69 rfl (by rw [yC_size]; exact randInfo)) rfl ⟨rfl, C7, B7⟩
/-- Two generators and a Given. -/
structure DS (w wr : World) (gb gx gy K : Nat) (Kx Vx : Nat → Nat) (dx : Nat) (Ky Vy : Nat → Nat) (dy : Nat) : Prop where
  ks : KS w wr gb K 0 (fun _ => 0) (fun _ => 0) (fun _ _ => 0) (.slice none 0 0)
  bx : Blk wr gx (gC Kx Vx dx) 141
  yb : Blk wr gy (rC Ky Vy dy) 76
  lx : L64 Kx ∧ L64 Vx ∧ dx ≤ 4096
  ly : L64 Ky ∧ L64 Vy ∧ dy ≤ 4096
  gn : w.heap.size ≤ gx ∧ w.heap.size ≤ gy ∧ 2 ≤ gx
theorem DS.cc {w wr : World} {gb gx gy K : Nat} {Kx Vx : Nat → Nat} {dx : Nat} {Ky Vy : Nat → Nat} {dy : Nat} (h : DS w wr gb gx gy K Kx Vx dx Ky Vy dy) : Chg w wr [] := h.ks.cc
theorem DS.chg {w wr w' : World} {gb gx gy K : Nat} {Kx Vx : Nat → Nat} {dx : Nat} {Ky Vy : Nat → Nat} {dy : Nat} (h : DS w wr gb gx gy K Kx Vx dx Ky Vy dy) (c : Chg wr w' []) : DS w w' gb gx gy K Kx Vx dx Ky Vy dy :=
  ⟨h.ks.chg c, h.bx.chg c (by simp), h.yb.chg c (by simp), h.lx, h.ly, h.gn⟩
theorem DS.drew {w wr : World} {gb gx gy K : Nat} {Kx Vx : Nat → Nat} {dx : Nat} {Ky Vy : Nat → Nat} {dy : Nat} (h : DS w wr gb gx gy K Kx Vx dx Ky Vy dy) : DS w wr.drew gb gx gy K Kx Vx dx Ky Vy dy := h.chg (Chg.refl wr []).drew
theorem DS.bytes {w wr : World} {gb gx gy K : Nat} {Kx Vx : Nat → Nat} {dx : Nat} {Ky Vy : Nat → Nat} {dy : Nat} (h : DS w wr gb gx gy K Kx Vx dx Ky Vy dy) (hK : K ≤ 2000000) {v : Value} {n : Nat} {f : Nat → Nat} (hn : n ≤ 1048576) (hv : Se wr v n f) :
    Calls Tryd.prog 9 #[.pointer (some ⟨gb, 0, none⟩), v] wr fun e w1 => ∃ o, e = .returned (.slice (some ⟨o, 0, none⟩) n (n + 3)) ∧ DS w w1 gb gx gy (K + 1) Kx Vx dx Ky Vy dy ∧ Cp w1 o n f ∧ KQ wr w1 gb := by
  refine (h.ks.bytes hK hn hv hv.bd).mono ?_
  rintro e w1 ⟨o, rfl, _, k1, c1, q1⟩
  exact ⟨o, rfl, ⟨k1, q1.blk h.bx (by decide) (by decide), q1.blk h.yb (by decide) (by decide), h.lx, h.ly, h.gn⟩, c1, q1⟩
/-- A copy does not lie in a block of another kind. -/
theorem Cp.seo {w : World} {o n : Nat} {f : Nat → Nat} (h : Cp w o n f) {g : Nat} {C : Array Value} {T : TypeId} (hg : Blk w g C T) (hT : T ≠ 5) (c : Nat) (h1 : n ≤ c) (h2 : c ≤ 9223372036854775807) : SeO g w (.slice (some ⟨o, 0, none⟩) n c) n f := by
  refine Or.inl ⟨h.sl c h1 h2, fun g' o' n' c' e hx => ?_⟩
  simp only [Value.slice.injEq, Option.some.injEq, Addr.mk.injEq] at e
  obtain ⟨C', hC'⟩ := h.1
  exact hg.ne hC' hT (by simp at hx; omega)
theorem DS.drawX {w wr : World} {gb gx gy K : Nat} {Kx Vx : Nat → Nat} {dx : Nat} {Ky Vy : Nat → Nat} {dy : Nat} (h : DS w wr gb gx gy K Kx Vx dx Ky Vy dy) (hG : Gl wr) (n : Int) {v : Value} {m : Nat} {f : Nat → Nat} (hv : SeO gx wr v m f) :
    Calls Tryd.prog 22 #[.pointer (some ⟨gx, 0, none⟩), .int .i64 n, v] wr fun e w1 => ∃ r, e = .returned (.tuple #[r, .int .i64 (rfs n dx)]) ∧ Ny w1 r (aN n dx) (dO Kx Vx m f) ∧ DS w w1 gb gx gy K (aK Kx Vx dx n m f) (aV Kx Vx dx n m f) (aD n dx) Ky Vy dy := by
  refine (Draw_y gx Kx Vx dx n v m f wr hG h.gn.2.2 h.lx.1 h.lx.2.1 h.lx.2.2 h.bx hv).mono ?_
  rintro e w1 ⟨r, rfl, N1, k1, B1⟩
  exact ⟨r, rfl, N1, h.ks.chgT h.bx (by decide) (by decide) (by decide) h.gn.1 k1, B1, h.yb.chg k1 (fun hm => h.yb.ne h.bx (by decide) (by simpa using hm)), ⟨aK_lt h.lx.1 _ _ _ _, aV_lt h.lx.2.1 _ _ _ _, aD_le h.lx.2.2⟩, h.ly, h.gn⟩
theorem DS.drawY {w wr : World} {gb gx gy K : Nat} {Kx Vx : Nat → Nat} {dx : Nat} {Ky Vy : Nat → Nat} {dy : Nat} (h : DS w wr gb gx gy K Kx Vx dx Ky Vy dy) (n : Int) {v : Value} {m : Nat} {f : Nat → Nat} (hv : SeO gy wr v m f) (hm : m ≤ 1048576) :
    Calls Tryd.prog 23 #[.pointer (some ⟨gy, 0, none⟩), .int .i64 n, v] wr fun e w1 => ∃ r, e = .returned (.tuple #[r, .int .i64 (rfs n dy)]) ∧ Ny w1 r (aN n dy) (dO Ky Vy m f) ∧ DS w w1 gb gx gy K Kx Vx dx (aK Ky Vy dy n m f) (aV Ky Vy dy n m f) (aD n dy) ∧ ∀ u N F, Ny wr u N F → Ny w1 u N F := by
  refine (Draw_r gy Ky Vy dy n v m f wr h.ly.1 h.ly.2.1 h.ly.2.2 h.yb hv (by omega)).mono ?_
  rintro e w1 ⟨r, rfl, N1, k1, B1⟩
  exact ⟨r, rfl, N1, ⟨h.ks.chgT h.yb (by decide) (by decide) (by decide) h.gn.2.1 k1, h.bx.chg k1 (fun hm => h.bx.ne h.yb (by decide) (by simpa using hm)), B1, h.lx, ⟨aK_lt h.ly.1 _ _ _ _, aV_lt h.ly.2.1 _ _ _ _, aD_le h.ly.2.2⟩, h.gn⟩, fun u N F hu => hu.chgT h.yb (by decide) k1⟩
def rE (n0 : Nat) : Int := if n0 < 32 then 111 else 0
def rK (K V : Nat → Nat) (n0 : Nat) (f0 : Nat → Nat) (n1 : Nat) (f1 : Nat → Nat) : Nat → Nat := if n0 < 32 then K else s2K K V (n0 + n1) (cat f0 n0 f1)
def rV (K V : Nat → Nat) (n0 : Nat) (f0 : Nat → Nat) (n1 : Nat) (f1 : Nat → Nat) : Nat → Nat := if n0 < 32 then V else s2V K V (n0 + n1) (cat f0 n0 f1)
def rD (d n0 : Nat) : Nat := if n0 < 32 then d else 0
theorem rKV_lt {K V : Nat → Nat} {d : Nat} (h : L64 K ∧ L64 V ∧ d ≤ 4096) (n0 : Nat) (f0 : Nat → Nat) (n1 : Nat) (f1 : Nat → Nat) : L64 (rK K V n0 f0 n1 f1) ∧ L64 (rV K V n0 f0 n1 f1) ∧ rD d n0 ≤ 4096 := by
  unfold rK rV rD
  split
  · exact h
  · exact ⟨fun _ _ => s2K_lt _ _ _ _ _, fun _ _ => s2V_lt _ _ _ _ _, by omega⟩
theorem DS.reseedX {w wr : World} {gb gx gy K : Nat} {Kx Vx : Nat → Nat} {dx : Nat} {Ky Vy : Nat → Nat} {dy : Nat} (h : DS w wr gb gx gy K Kx Vx dx Ky Vy dy) (hG : Gl wr) {v0 v1 : Value} {n0 n1 : Nat} {f0 f1 : Nat → Nat} (h0 : SeO gx wr v0 n0 f0) (h1 : SeO gx wr v1 n1 f1) (hn : n0 ≤ 1048576 ∧ n1 ≤ 1048576) :
    Calls Tryd.prog 24 #[.pointer (some ⟨gx, 0, none⟩), v0, v1] wr fun e w1 => e = .returned (.int .i64 (rE n0)) ∧ DS w w1 gb gx gy K (rK Kx Vx n0 f0 n1 f1) (rV Kx Vx n0 f0 n1 f1) (rD dx n0) Ky Vy dy := by
  have hl := rKV_lt h.lx n0 f0 n1 f1
  by_cases hn2 : n0 < 32
  · have q1 : rE n0 = 111 := by unfold rE; rw [if_pos hn2]
    have q2 : rK Kx Vx n0 f0 n1 f1 = Kx := by unfold rK; rw [if_pos hn2]
    have q3 : rV Kx Vx n0 f0 n1 f1 = Vx := by unfold rV; rw [if_pos hn2]
    have q4 : rD dx n0 = dx := by unfold rD; rw [if_pos hn2]
    rw [q1, q2, q3, q4]
    refine (Reseed_no gx Kx Vx dx v0 v1 n0 f0 wr h.bx h0.se hn2).mono ?_
    rintro e w1 ⟨rfl, rfl⟩
    exact ⟨rfl, h⟩
  · have q1 : rE n0 = 0 := by unfold rE; rw [if_neg hn2]
    have q2 : rK Kx Vx n0 f0 n1 f1 = s2K Kx Vx (n0 + n1) (cat f0 n0 f1) := by unfold rK; rw [if_neg hn2]
    have q3 : rV Kx Vx n0 f0 n1 f1 = s2V Kx Vx (n0 + n1) (cat f0 n0 f1) := by unfold rV; rw [if_neg hn2]
    have q4 : rD dx n0 = 0 := by unfold rD; rw [if_neg hn2]
    rw [q2, q3, q4] at hl
    rw [q1, q2, q3, q4]
    refine (Reseed_ok gx Kx Vx dx v0 v1 n0 n1 f0 f1 wr hG h.gn.2.2 h.lx.1 h.lx.2.1 h.bx h0 h1 (by omega) (by omega)).mono ?_
    rintro e w1 ⟨rfl, k1, B1⟩
    exact ⟨rfl, h.ks.chgT h.bx (by decide) (by decide) (by decide) h.gn.1 k1, B1, h.yb.chg k1 (fun hm => h.yb.ne h.bx (by decide) (by simpa using hm)), hl, h.ly, h.gn⟩
theorem DS.reseedY {w wr : World} {gb gx gy K : Nat} {Kx Vx : Nat → Nat} {dx : Nat} {Ky Vy : Nat → Nat} {dy : Nat} (h : DS w wr gb gx gy K Kx Vx dx Ky Vy dy) {v0 v1 : Value} {n0 n1 : Nat} {f0 f1 : Nat → Nat} (h0 : SeO gy wr v0 n0 f0) (h1 : SeO gy wr v1 n1 f1) (hn : n0 ≤ 1048576 ∧ n1 ≤ 1048576) :
    Calls Tryd.prog 25 #[.pointer (some ⟨gy, 0, none⟩), v0, v1] wr fun e w1 => e = .returned (.int .i64 (rE n0)) ∧ DS w w1 gb gx gy K Kx Vx dx (rK Ky Vy n0 f0 n1 f1) (rV Ky Vy n0 f0 n1 f1) (rD dy n0) := by
  have hl := rKV_lt h.ly n0 f0 n1 f1
  by_cases hn2 : n0 < 32
  · have q1 : rE n0 = 111 := by unfold rE; rw [if_pos hn2]
    have q2 : rK Ky Vy n0 f0 n1 f1 = Ky := by unfold rK; rw [if_pos hn2]
    have q3 : rV Ky Vy n0 f0 n1 f1 = Vy := by unfold rV; rw [if_pos hn2]
    have q4 : rD dy n0 = dy := by unfold rD; rw [if_pos hn2]
    rw [q1, q2, q3, q4]
    refine (Reseed_rno gy v0 v1 n0 f0 wr h0.se hn2).mono ?_
    rintro e w1 ⟨rfl, rfl⟩
    exact ⟨rfl, h⟩
  · have q1 : rE n0 = 0 := by unfold rE; rw [if_neg hn2]
    have q2 : rK Ky Vy n0 f0 n1 f1 = s2K Ky Vy (n0 + n1) (cat f0 n0 f1) := by unfold rK; rw [if_neg hn2]
    have q3 : rV Ky Vy n0 f0 n1 f1 = s2V Ky Vy (n0 + n1) (cat f0 n0 f1) := by unfold rV; rw [if_neg hn2]
    have q4 : rD dy n0 = 0 := by unfold rD; rw [if_neg hn2]
    rw [q2, q3, q4] at hl
    rw [q1, q2, q3, q4]
    refine (Reseed_rok gy Ky Vy dy v0 v1 n0 n1 f0 f1 wr h.ly.1 h.ly.2.1 h.yb h0 h1 (by omega) (by omega)).mono ?_
    rintro e w1 ⟨rfl, k1, B1⟩
    exact ⟨rfl, h.ks.chgT h.yb (by decide) (by decide) (by decide) h.gn.2.1 k1, h.bx.chg k1 (fun hm => h.bx.ne h.yb (by decide) (by simpa using hm)), B1, h.lx, hl, h.gn⟩
theorem DS.randX {w wr : World} {gb gx gy K : Nat} {Kx Vx : Nat → Nat} {dx : Nat} {Ky Vy : Nat → Nat} {dy : Nat} (h : DS w wr gb gx gy K Kx Vx dx Ky Vy dy) (hG : Gl wr) :
    Calls Tryd.prog 26 #[.pointer (some ⟨gx, 0, none⟩)] wr fun e w1 => e = .returned (.tuple #[.agg (yC 32 (rO Kx Vx dx)), .int .i64 (rfs 32 dx)]) ∧ DS w w1 gb gx gy K (aK Kx Vx dx 32 0 (fun _ => 0)) (aV Kx Vx dx 32 0 (fun _ => 0)) (aD 32 dx) Ky Vy dy := by
  refine (Random_a gx Kx Vx dx wr hG h.gn.2.2 h.lx.1 h.lx.2.1 h.lx.2.2 h.bx).mono ?_
  rintro e w1 ⟨rfl, k1, B1⟩
  exact ⟨rfl, h.ks.chgT h.bx (by decide) (by decide) (by decide) h.gn.1 k1, B1, h.yb.chg k1 (fun hm => h.yb.ne h.bx (by decide) (by simpa using hm)), ⟨aK_lt h.lx.1 _ _ _ _, aV_lt h.lx.2.1 _ _ _ _, aD_le h.lx.2.2⟩, h.ly, h.gn⟩
theorem DS.randY {w wr : World} {gb gx gy K : Nat} {Kx Vx : Nat → Nat} {dx : Nat} {Ky Vy : Nat → Nat} {dy : Nat} (h : DS w wr gb gx gy K Kx Vx dx Ky Vy dy) :
    Calls Tryd.prog 27 #[.pointer (some ⟨gy, 0, none⟩)] wr fun e w1 => e = .returned (.tuple #[.agg (yC 32 (rO Ky Vy dy)), .int .i64 (rfs 32 dy)]) ∧ DS w w1 gb gx gy K Kx Vx dx (aK Ky Vy dy 32 0 (fun _ => 0)) (aV Ky Vy dy 32 0 (fun _ => 0)) (aD 32 dy) ∧ Chg wr w1 [gy] := by
  refine (Random_r gy Ky Vy dy wr h.ly.1 h.ly.2.1 h.ly.2.2 h.yb).mono ?_
  rintro e w1 ⟨rfl, k1, B1⟩
  exact ⟨rfl, ⟨h.ks.chgT h.yb (by decide) (by decide) (by decide) h.gn.2.1 k1, h.bx.chg k1 (fun hm => h.bx.ne h.yb (by decide) (by simpa using hm)), B1, h.lx, ⟨aK_lt h.ly.1 _ _ _ _, aV_lt h.ly.2.1 _ _ _ _, aD_le h.ly.2.2⟩, h.gn⟩, k1⟩
end Go.Proofs.YthpfdnkcepfbaaaDoor
