/- (*number).setAbove, add, sub, where the number lies within a block. -/
import Derived.Test.YtledggdoehnlcaaGreatAddSub
import Derived.Test.YtledggdoehnlcaaGreatMgB
set_option linter.unusedVariables false
set_option linter.unusedSimpArgs false
set_option linter.unnecessarySimpa false
namespace Go.Proofs.YtledggdoehnlcaaGreat
open Go.RowKit N

/-- The four words of n. -/
def wdL (n : Int) : List Value := [.int .u64 (wrd n 0), .int .u64 (wrd n 1), .int .u64 (wrd n 2), .int .u64 (wrd n 3)]
theorem wdL_ok (n : Int) : (wdL n).length = 4 ∧ ∀ v ∈ wdL n, v.oneCell' = true := ⟨rfl, by simp [wdL, Value.oneCell']⟩
/-- The words of n at place o of these cells. -/
def Wc (c : Array Value) (o : Nat) (n : Int) : Prop := c[o]? = some (.int .u64 (wrd n 0)) ∧ c[o + 1]? = some (.int .u64 (wrd n 1)) ∧ c[o + 2]? = some (.int .u64 (wrd n 2)) ∧ c[o + 3]? = some (.int .u64 (wrd n 3))
theorem Wc.set {c : Array Value} {o : Nat} (ho : o + 4 ≤ c.size) (n : Int) : Wc (setL c o (wdL n)) o n := by
  refine ⟨?_, ?_, ?_, ?_⟩ <;> rw [setL_get, if_pos (by simp [wdL]; omega)]
  · rw [Nat.sub_self]; rfl
  · rw [show o + 1 - o = 1 from by omega]; rfl
  · rw [show o + 2 - o = 2 from by omega]; rfl
  · rw [show o + 3 - o = 3 from by omega]; rfl
theorem Wc.le {c : Array Value} {o : Nat} {n : Int} (h : Wc c o n) : o + 4 ≤ c.size := by
  have := (Array.getElem?_eq_some_iff.1 h.2.2.2).1
  omega
theorem setL_setL (c : Array Value) (o : Nat) (x y : List Value) (h : x.length = y.length) : setL (setL c o x) o y = setL c o y := by
  apply Array.ext_getElem?
  intro k
  rw [setL_get, setL_get, setL_get, setL_size, h]
  split <;> rfl
theorem Wc.row {m : Nat} {F : Nat → List Value} (hF : Rok 4 m F) {i : Nat} (hi : i < m) {n : Int} (h : F i = wdL n) : Wc (rL 4 m F).toArray (i * 4) n := by
  have q : ∀ j, j < 4 → (rL 4 m F).toArray[i * 4 + j]? = (wdL n)[j]? := fun j hj => by rw [List.getElem?_toArray, rL_get hF hi hj, h]
  exact ⟨q 0 (by decide), q 1 (by decide), q 2 (by decide), q 3 (by decide)⟩


set_option maxHeartbeats 1000000 in
set_option maxRecDepth 100000 in
theorem setAbove_o (z o : Nat) (c : Array Value) (T : TypeId) (ho : o + 4 ≤ c.size) (w0 w1 w2 w3 b v : Int) (h0 : Wo w0) (h1 : Wo w1) (h2 : Wo w2) (h3 : Wo w3) (hb : Bi b)
    (hv : w0 + w1 * 18446744073709551616 + w2 * 340282366920938463463374607431768211456 + w3 * 6277101735386680763835789423207666416102355444464034512896 = v + b * 115792089237316195423570985008687907853269984665640564039457584007913129639936)
    (hr0 : 0 ≤ v + b * 7237005577332262213973186563042994240857116359379907606001950938285454250989) (hr1 : v + b * 7237005577332262213973186563042994240857116359379907606001950938285454250989 < 115792089237316195423570985008687907853269984665640564039457584007913129639936)
    (w : World) (hz : Blk w z c T) :
    Calls Tryz.prog 126 #[.pointer (some ⟨z, o, none⟩), .int .u64 w0, .int .u64 w1, .int .u64 w2, .int .u64 w3, .int .u64 b] w fun e w' => e = .returned (.tuple #[]) ∧ Blk w' z (setL c o (wdL (v + b * 7237005577332262213973186563042994240857116359379907606001950938285454250989))) T ∧ w.grownBy w' (some z) := by
  obtain ⟨x0, k0⟩ : ∃ x, w.cell? ⟨z, o, none⟩ = some x := ⟨_, (hz.cell (o)).trans (Array.getElem?_eq_getElem (by omega))⟩
  obtain ⟨x1, k1⟩ : ∃ x, w.cell? ⟨z, o + 1, none⟩ = some x := ⟨_, (hz.cell (o + 1)).trans (Array.getElem?_eq_getElem (by omega))⟩
  obtain ⟨x2, k2⟩ : ∃ x, w.cell? ⟨z, o + 2, none⟩ = some x := ⟨_, (hz.cell (o + 2)).trans (Array.getElem?_eq_getElem (by omega))⟩
  obtain ⟨x3, k3⟩ : ∃ x, w.cell? ⟨z, o + 3, none⟩ = some x := ⟨_, (hz.cell (o + 3)).trans (Array.getElem?_eq_getElem (by omega))⟩
  have f0 := hz.frozen o; have f1 := hz.frozen (o + 1); have f2 := hz.frozen (o + 2); have f3 := hz.frozen (o + 3)
  obtain ⟨m, hm, m0, m1, m3⟩ : ∃ m, IntKind.u64.wrap (-b) = m ∧ bits .and .u64 6346243789798364141 m = 6346243789798364141 * b ∧ bits .and .u64 1503914060200516822 m = 1503914060200516822 * b ∧ bits .and .u64 1152921504606846976 m = 1152921504606846976 * b := by
    have : b = 0 ∨ b = 1 := by unfold Bi at hb; omega
    rcases this with rfl | rfl
    · exact ⟨0, by decide, by decide, by decide, by decide⟩
    · exact ⟨18446744073709551615, by decide, by decide, by decide, by decide⟩
  have g0 : Wo (6346243789798364141 * b) := by unfold Bi at hb; unfold Wo; omega
  have g1 : Wo (1503914060200516822 * b) := by unfold Bi at hb; unfold Wo; omega
  have g3 : Wo (1152921504606846976 * b) := by unfold Bi at hb; unfold Wo; omega
  obtain ⟨z0, c0, e0, hz0, hc0⟩ := addx w0 (6346243789798364141 * b) 0 h0 g0 bi0
  obtain ⟨z1, c1, e1, hz1, hc1⟩ := addx w1 (1503914060200516822 * b) c0 h1 g1 hc0
  obtain ⟨z2, c2, e2, hz2, hc2⟩ := addx w2 0 c1 h2 wo0 hc1
  obtain ⟨z3, c3, e3, hz3, hc3⟩ := addx w3 (1152921504606846976 * b) c2 h3 g3 hc2
  have V := above_val v b w0 w1 w2 w3 z0 z1 z2 z3 c0 c1 c2 c3 hv hb hz0 hz1 hz2 hz3 hc3 e0 e1 e2 e3 hr0 hr1
  obtain ⟨q0, q1, q2, q3⟩ := wrd_is _ z0 z1 z2 z3 hz0 hz1 hz2 hz3 V
  have A0 := add64 _ _ _ z0 c0 h0 g0 bi0 e0 hz0
  have A1 := add64 _ _ _ z1 c1 h1 g1 hc0 e1 hz1
  have A2 := add64 _ _ _ z2 c2 h2 wo0 hc1 e2 hz2
  have A3 := add64 _ _ _ z3 c3 h3 g3 hc2 e3 hz3
  unfold wdL
  rw [← q0, ← q1, ← q2, ← q3]
  clear q0 q1 q2 q3 e0 e1 e2 e3 V hv
  generalize 6346243789798364141 * b = b0 at *
  generalize 1503914060200516822 * b = b1 at *
  generalize 1152921504606846976 * b = b3 at *
  go_enter Tryz.func126, Tryz.ntmps126
  go_wp2_with fail
  go_region
  go_wp2_with fail
  go_region
  go_wp2_with fail
  go_region
  go_wp2_with fail
  go_region
  go_wp2_with fail
  go_end0
  refine ⟨rfl, ?_, ?_⟩
  · exact (((hz.setCell o _).setCell (o + 1) _).setCell (o + 2) _).setCell (o + 3) _
  · (repeat (first | with_reducible exact gb_refl _ _ | with_reducible assumption | with_reducible apply gb_drew | with_reducible apply gb_drewN | with_reducible apply gb_set | with_reducible apply gb_alloc))

set_option maxHeartbeats 1000000 in
set_option maxRecDepth 100000 in
theorem sub_o (z o : Nat) (c : Array Value) (T : TypeId) (ho : o + 4 ≤ c.size) (x y : Nat) (n m : Int) (rn : RL n) (rm : RL m) (w : World) (hz : Blk w z c T) (hx : NumAt w x n) (hy : NumAt w y m) :
    Calls Tryz.prog 85 #[.pointer (some ⟨z, o, none⟩), .pointer (some ⟨x, 0, none⟩), .pointer (some ⟨y, 0, none⟩)] w fun e w' => e = .returned (.tuple #[]) ∧ Blk w' z (setL c o (wdL ((n - m) % L))) T ∧ w.grownBy w' (some z) := by
  have kx0 := hx.c0; have kx1 := hx.c1; have kx2 := hx.c2; have kx3 := hx.c3
  have ky0 := hy.c0; have ky1 := hy.c1; have ky2 := hy.c2; have ky3 := hy.c3
  have ex := wrd_sum n rn.1 (by unfold RL at rn; omega)
  have ey := wrd_sum m rm.1 (by unfold RL at rm; omega)
  have px0 := wrd_wo n 0; have px1 := wrd_wo n 1; have px2 := wrd_wo n 2; have px3 := wrd_wo n 3
  have py0 := wrd_wo m 0; have py1 := wrd_wo m 1; have py2 := wrd_wo m 2; have py3 := wrd_wo m 3
  generalize wrd n 0 = x0 at *; generalize wrd n 1 = x1 at *; generalize wrd n 2 = x2 at *; generalize wrd n 3 = x3 at *
  generalize wrd m 0 = y0 at *; generalize wrd m 1 = y1 at *; generalize wrd m 2 = y2 at *; generalize wrd m 3 = y3 at *
  obtain ⟨t0, d0, b0, ht0, hd0⟩ := subx x0 y0 0 px0 py0 bi0
  obtain ⟨t1, d1, b1, ht1, hd1⟩ := subx x1 y1 d0 px1 py1 hd0
  obtain ⟨t2, d2, b2, ht2, hd2⟩ := subx x2 y2 d1 px2 py2 hd1
  obtain ⟨t3, d3, b3, ht3, hd3⟩ := subx x3 y3 d2 px3 py3 hd2
  have V := sub_val n m x0 x1 x2 x3 y0 y1 y2 y3 t0 t1 t2 t3 d0 d1 d2 d3 rn rm ex ey b0 b1 b2 b3 ht0 ht1 ht2 ht3 hd3
  have HV : Hid ((t0 + t1 * 18446744073709551616 + t2 * 340282366920938463463374607431768211456 + t3 * 6277101735386680763835789423207666416102355444464034512896 = (n - m) + d3 * 115792089237316195423570985008687907853269984665640564039457584007913129639936) ∧ ((n - m) + d3 * 7237005577332262213973186563042994240857116359379907606001950938285454250989 = (n - m) % L)) := V
  have B0 := sub64 _ _ _ t0 d0 px0 py0 bi0 b0 ht0 hd0
  have B1 := sub64 _ _ _ t1 d1 px1 py1 hd0 b1 ht1 hd1
  have B2 := sub64 _ _ _ t2 d2 px2 py2 hd1 b2 ht2 hd2
  have B3 := sub64 _ _ _ t3 d3 px3 py3 hd2 b3 ht3 hd3
  clear V b0 b1 b2 b3 ex ey
  go_enter Tryz.func85, Tryz.ntmps85
  go_wp2_with fail
  go_region
  go_wp2_with fail
  go_region
  go_wp2_with fail
  go_region
  go_wp2_with fail
  go_region
  go_wp2_with fail
  have R := rl_mod (n - m)
  refine (setAbove_o z o c T ho t0 t1 t2 t3 d3 (n - m) ht0 ht1 ht2 ht3 hd3 HV.out.1 ?_ ?_ _ ?_).mono ?_
  · rw [HV.out.2]; exact R.1
  · rw [HV.out.2]; unfold RL at R; omega
  · exact hz
  rintro e w' ⟨rfl, hn, hg⟩
  rw [HV.out.2] at hn
  go_wp2_with fail
  go_end0
  exact ⟨rfl, hn, ⟨hg.os, hg.tape, hg.output, hg.size, hg.block⟩⟩
set_option maxHeartbeats 1000000 in
set_option maxRecDepth 100000 in
theorem add_o (z o : Nat) (c : Array Value) (T : TypeId) (y : Nat) (n m : Int) (rn : RL n) (rm : RL m) (w : World) (hz : Blk w z c T) (hc : Wc c o n) (hy : NumAt w y m) :
    Calls Tryz.prog 142 #[.pointer (some ⟨z, o, none⟩), .pointer (some ⟨z, o, none⟩), .pointer (some ⟨y, 0, none⟩)] w fun e w' => e = .returned (.tuple #[]) ∧ Blk w' z (setL c o (wdL ((n + m) % L))) T ∧ w.grownBy w' (some z) := by
  have ho := hc.le
  have kx0 := (hz.cell o).trans hc.1; have kx1 := (hz.cell (o + 1)).trans hc.2.1; have kx2 := (hz.cell (o + 2)).trans hc.2.2.1; have kx3 := (hz.cell (o + 3)).trans hc.2.2.2
  clear hc
  have ky0 := hy.c0; have ky1 := hy.c1; have ky2 := hy.c2; have ky3 := hy.c3
  have ex := wrd_sum n rn.1 (by unfold RL at rn; omega)
  have ey := wrd_sum m rm.1 (by unfold RL at rm; omega)
  have px0 := wrd_wo n 0; have px1 := wrd_wo n 1; have px2 := wrd_wo n 2; have px3 := wrd_wo n 3
  have py0 := wrd_wo m 0; have py1 := wrd_wo m 1; have py2 := wrd_wo m 2; have py3 := wrd_wo m 3
  generalize wrd n 0 = x0 at *; generalize wrd n 1 = x1 at *; generalize wrd n 2 = x2 at *; generalize wrd n 3 = x3 at *
  generalize wrd m 0 = y0 at *; generalize wrd m 1 = y1 at *; generalize wrd m 2 = y2 at *; generalize wrd m 3 = y3 at *
  have o0 : Wo 6346243789798364141 := by unfold Wo; omega
  have o1 : Wo 1503914060200516822 := by unfold Wo; omega
  have o3 : Wo 1152921504606846976 := by unfold Wo; omega
  obtain ⟨s0, c0, a0, hs0, hc0⟩ := addx x0 y0 0 px0 py0 bi0
  obtain ⟨s1, c1, a1, hs1, hc1⟩ := addx x1 y1 c0 px1 py1 hc0
  obtain ⟨s2, c2, a2, hs2, hc2⟩ := addx x2 y2 c1 px2 py2 hc1
  obtain ⟨s3, c3, a3, hs3, hc3⟩ := addx x3 y3 c2 px3 py3 hc2
  obtain ⟨t0, d0, b0, ht0, hd0⟩ := subx s0 6346243789798364141 0 hs0 o0 bi0
  obtain ⟨t1, d1, b1, ht1, hd1⟩ := subx s1 1503914060200516822 d0 hs1 o1 hd0
  obtain ⟨t2, d2, b2, ht2, hd2⟩ := subx s2 0 d1 hs2 wo0 hd1
  obtain ⟨t3, d3, b3, ht3, hd3⟩ := subx s3 1152921504606846976 d2 hs3 o3 hd2
  have V := add_val n m x0 x1 x2 x3 y0 y1 y2 y3 s0 s1 s2 s3 c0 c1 c2 c3 t0 t1 t2 t3 d0 d1 d2 d3 rn rm ex ey a0 a1 a2 a3 b0 b1 b2 b3 hs0 hs1 hs2 hs3 ht0 ht1 ht2 ht3 hc3 hd3
  have HV : Hid ((t0 + t1 * 18446744073709551616 + t2 * 340282366920938463463374607431768211456 + t3 * 6277101735386680763835789423207666416102355444464034512896 = (n + m - 7237005577332262213973186563042994240857116359379907606001950938285454250989) + d3 * 115792089237316195423570985008687907853269984665640564039457584007913129639936) ∧ ((n + m - 7237005577332262213973186563042994240857116359379907606001950938285454250989) + d3 * 7237005577332262213973186563042994240857116359379907606001950938285454250989 = (n + m) % L)) := V
  have A0 := add64 _ _ _ s0 c0 px0 py0 bi0 a0 hs0
  have A1 := add64 _ _ _ s1 c1 px1 py1 hc0 a1 hs1
  have A2 := add64 _ _ _ s2 c2 px2 py2 hc1 a2 hs2
  have A3 := add64 _ _ _ s3 c3 px3 py3 hc2 a3 hs3
  have B0 := sub64 _ _ _ t0 d0 hs0 o0 bi0 b0 ht0 hd0
  have B1 := sub64 _ _ _ t1 d1 hs1 o1 hd0 b1 ht1 hd1
  have B2 := sub64 _ _ _ t2 d2 hs2 wo0 hd1 b2 ht2 hd2
  have B3 := sub64 _ _ _ t3 d3 hs3 o3 hd2 b3 ht3 hd3
  clear V a0 a1 a2 a3 b0 b1 b2 b3 ex ey
  go_enter Tryz.func142, Tryz.ntmps142
  go_wp2_with fail
  go_region
  go_wp2_with fail
  go_region
  go_wp2_with fail
  go_region
  go_wp2_with fail
  go_region
  go_wp2_with (first | simp only [B0] | simp only [B1] | simp only [B2] | simp only [B3])
  have R := rl_mod (n + m)
  refine (setAbove_o z o c T ho t0 t1 t2 t3 d3 (n + m - 7237005577332262213973186563042994240857116359379907606001950938285454250989) ht0 ht1 ht2 ht3 hd3 HV.out.1 ?_ ?_ _ ?_).mono ?_
  · rw [HV.out.2]; exact R.1
  · rw [HV.out.2]; unfold RL at R; omega
  · exact hz
  rintro e w' ⟨rfl, hn, hg⟩
  rw [HV.out.2] at hn
  go_wp2_with fail
  go_end0
  exact ⟨rfl, hn, ⟨hg.os, hg.tape, hg.output, hg.size, hg.block⟩⟩
end Go.Proofs.YtledggdoehnlcaaGreat
