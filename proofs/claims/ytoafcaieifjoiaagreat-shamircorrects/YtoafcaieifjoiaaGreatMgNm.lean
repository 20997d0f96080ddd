/- Joined: NmO1, NmO2, NmO3. -/
import Derived.Test.YtoafcaieifjoiaaGreatAddSub
import Derived.Test.YtoafcaieifjoiaaGreatMgB
import Derived.Test.YtoafcaieifjoiaaGreatProd
import Derived.Test.YtoafcaieifjoiaaGreatRed
import Derived.Test.YtoafcaieifjoiaaGreatBytes
/- (*number).setAbove, add, sub, where the number lies within a block. -/
set_option linter.unusedVariables false
set_option linter.unusedSimpArgs false
set_option linter.unnecessarySimpa false
namespace Go.Proofs.YtoafcaieifjoiaaGreat
open Go.RowKit N

/-- The four words of n. -/
def wdL (n : Int) : List Value := [.int .u64 (wrd n 0), .int .u64 (wrd n 1), .int .u64 (wrd n 2), .int .u64 (wrd n 3)]
theorem wdL_ok (n : Int) : (wdL n).length = 4 ∧ ∀ v ∈ wdL n, v.oneCell' = true := ⟨rfl, by simp [wdL, Value.oneCell']⟩
/-- The words of n at place o of these cells. -/
def Wc (c : Array Value) (o : Nat) (n : Int) : Prop := c[o]? = some (.int .u64 (wrd n 0)) ∧ c[o + 1]? = some (.int .u64 (wrd n 1)) ∧ c[o + 2]? = some (.int .u64 (wrd n 2)) ∧ c[o + 3]? = some (.int .u64 (wrd n 3))
theorem Wc.set {c : Array Value} {o : Nat} (ho : o + 4 ≤ c.size) (n : Int) : Wc (setL c o (wdL n)) o n := by
  refine ⟨?_, ?_, ?_, ?_⟩ <;> rw [setL_get, if_pos (by simp [wdL]; omega)]
  · rw [Nat.sub_self]; rfl
  · rw [show o + 1 - o = 1 from by omega]; rfl
  · rw [show o + 2 - o = 2 from by omega]; rfl
  · rw [show o + 3 - o = 3 from by omega]; rfl
theorem Wc.le {c : Array Value} {o : Nat} {n : Int} (h : Wc c o n) : o + 4 ≤ c.size := by
  have := (Array.getElem?_eq_some_iff.1 h.2.2.2).1
  omega
theorem setL_setL (c : Array Value) (o : Nat) (x y : List Value) (h : x.length = y.length) : setL (setL c o x) o y = setL c o y := by
  apply Array.ext_getElem?
  intro k
  rw [setL_get, setL_get, setL_get, setL_size, h]
  split <;> rfl
theorem Wc.row {m : Nat} {F : Nat → List Value} (hF : Rok 4 m F) {i : Nat} (hi : i < m) {n : Int} (h : F i = wdL n) : Wc (rL 4 m F).toArray (i * 4) n := by
  have q : ∀ j, j < 4 → (rL 4 m F).toArray[i * 4 + j]? = (wdL n)[j]? := fun j hj => by rw [List.getElem?_toArray, rL_get hF hi hj, h]
  exact ⟨q 0 (by decide), q 1 (by decide), q 2 (by decide), q 3 (by decide)⟩


set_option maxHeartbeats 1000000 in
set_option maxRecDepth 100000 in
theorem setAbove_o (z o : Nat) (c : Array Value) (T : TypeId) (ho : o + 4 ≤ c.size) (w0 w1 w2 w3 b v : Int) (h0 : Wo w0) (h1 : Wo w1) (h2 : Wo w2) (h3 : Wo w3) (hb : Bi b)
    (hv : w0 + w1 * 18446744073709551616 + w2 * 340282366920938463463374607431768211456 + w3 * 6277101735386680763835789423207666416102355444464034512896 = v + b * 115792089237316195423570985008687907853269984665640564039457584007913129639936)
    (hr0 : 0 ≤ v + b * 7237005577332262213973186563042994240857116359379907606001950938285454250989) (hr1 : v + b * 7237005577332262213973186563042994240857116359379907606001950938285454250989 < 115792089237316195423570985008687907853269984665640564039457584007913129639936)
    (w : World) (hz : Blk w z c T) :
    Calls Tryz.prog 134 #[.pointer (some ⟨z, o, none⟩), .int .u64 w0, .int .u64 w1, .int .u64 w2, .int .u64 w3, .int .u64 b] w fun e w' => e = .returned (.tuple #[]) ∧ Blk w' z (setL c o (wdL (v + b * 7237005577332262213973186563042994240857116359379907606001950938285454250989))) T ∧ w.grownBy w' (some z) := by
  obtain ⟨x0, k0⟩ : ∃ x, w.cell? ⟨z, o, none⟩ = some x := ⟨_, (hz.cell (o)).trans (Array.getElem?_eq_getElem (by omega))⟩
  obtain ⟨x1, k1⟩ : ∃ x, w.cell? ⟨z, o + 1, none⟩ = some x := ⟨_, (hz.cell (o + 1)).trans (Array.getElem?_eq_getElem (by omega))⟩
  obtain ⟨x2, k2⟩ : ∃ x, w.cell? ⟨z, o + 2, none⟩ = some x := ⟨_, (hz.cell (o + 2)).trans (Array.getElem?_eq_getElem (by omega))⟩
  obtain ⟨x3, k3⟩ : ∃ x, w.cell? ⟨z, o + 3, none⟩ = some x := ⟨_, (hz.cell (o + 3)).trans (Array.getElem?_eq_getElem (by omega))⟩
  have f0 := hz.frozen o; have f1 := hz.frozen (o + 1); have f2 := hz.frozen (o + 2); have f3 := hz.frozen (o + 3)
  obtain ⟨m, hm, m0, m1, m3⟩ : ∃ m, IntKind.u64.wrap (-b) = m ∧ bits .and .u64 6346243789798364141 m = 6346243789798364141 * b ∧ bits .and .u64 1503914060200516822 m = 1503914060200516822 * b ∧ bits .and .u64 1152921504606846976 m = 1152921504606846976 * b := by
    have : b = 0 ∨ b = 1 := by unfold Bi at hb; omega
    rcases this with rfl | rfl
    · exact ⟨0, by decide, by decide, by decide, by decide⟩
    · exact ⟨18446744073709551615, by decide, by decide, by decide, by decide⟩
  have g0 : Wo (6346243789798364141 * b) := by unfold Bi at hb; unfold Wo; omega
  have g1 : Wo (1503914060200516822 * b) := by unfold Bi at hb; unfold Wo; omega
  have g3 : Wo (1152921504606846976 * b) := by unfold Bi at hb; unfold Wo; omega
  obtain ⟨z0, c0, e0, hz0, hc0⟩ := addx w0 (6346243789798364141 * b) 0 h0 g0 bi0
  obtain ⟨z1, c1, e1, hz1, hc1⟩ := addx w1 (1503914060200516822 * b) c0 h1 g1 hc0
  obtain ⟨z2, c2, e2, hz2, hc2⟩ := addx w2 0 c1 h2 wo0 hc1
  obtain ⟨z3, c3, e3, hz3, hc3⟩ := addx w3 (1152921504606846976 * b) c2 h3 g3 hc2
  have V := above_val v b w0 w1 w2 w3 z0 z1 z2 z3 c0 c1 c2 c3 hv hb hz0 hz1 hz2 hz3 hc3 e0 e1 e2 e3 hr0 hr1
  obtain ⟨q0, q1, q2, q3⟩ := wrd_is _ z0 z1 z2 z3 hz0 hz1 hz2 hz3 V
  have A0 := add64 _ _ _ z0 c0 h0 g0 bi0 e0 hz0
  have A1 := add64 _ _ _ z1 c1 h1 g1 hc0 e1 hz1
  have A2 := add64 _ _ _ z2 c2 h2 wo0 hc1 e2 hz2
  have A3 := add64 _ _ _ z3 c3 h3 g3 hc2 e3 hz3
  unfold wdL
  rw [← q0, ← q1, ← q2, ← q3]
  clear q0 q1 q2 q3 e0 e1 e2 e3 V hv
  generalize 6346243789798364141 * b = b0 at *
  generalize 1503914060200516822 * b = b1 at *
  generalize 1152921504606846976 * b = b3 at *
  go_enter Tryz.func134, Tryz.ntmps134
  go_wp2_with fail
  go_region
  go_wp2_with fail
  go_region
  go_wp2_with fail
  go_region
  go_wp2_with fail
  go_region
  go_wp2_with fail
  go_end0
  refine ⟨rfl, ?_, ?_⟩
  · exact (((hz.setCell o _).setCell (o + 1) _).setCell (o + 2) _).setCell (o + 3) _
  · (repeat (first | with_reducible exact gb_refl _ _ | with_reducible assumption | with_reducible apply gb_drew | with_reducible apply gb_drewN | with_reducible apply gb_set | with_reducible apply gb_alloc))

set_option maxHeartbeats 1000000 in
set_option maxRecDepth 100000 in
theorem sub_o (z o : Nat) (c : Array Value) (T : TypeId) (ho : o + 4 ≤ c.size) (x y : Nat) (n m : Int) (rn : RL n) (rm : RL m) (w : World) (hz : Blk w z c T) (hx : NumAt w x n) (hy : NumAt w y m) :
    Calls Tryz.prog 108 #[.pointer (some ⟨z, o, none⟩), .pointer (some ⟨x, 0, none⟩), .pointer (some ⟨y, 0, none⟩)] w fun e w' => e = .returned (.tuple #[]) ∧ Blk w' z (setL c o (wdL ((n - m) % L))) T ∧ w.grownBy w' (some z) := by
  have kx0 := hx.c0; have kx1 := hx.c1; have kx2 := hx.c2; have kx3 := hx.c3
  have ky0 := hy.c0; have ky1 := hy.c1; have ky2 := hy.c2; have ky3 := hy.c3
  have ex := wrd_sum n rn.1 (by unfold RL at rn; omega)
  have ey := wrd_sum m rm.1 (by unfold RL at rm; omega)
  have px0 := wrd_wo n 0; have px1 := wrd_wo n 1; have px2 := wrd_wo n 2; have px3 := wrd_wo n 3
  have py0 := wrd_wo m 0; have py1 := wrd_wo m 1; have py2 := wrd_wo m 2; have py3 := wrd_wo m 3
  generalize wrd n 0 = x0 at *; generalize wrd n 1 = x1 at *; generalize wrd n 2 = x2 at *; generalize wrd n 3 = x3 at *
  generalize wrd m 0 = y0 at *; generalize wrd m 1 = y1 at *; generalize wrd m 2 = y2 at *; generalize wrd m 3 = y3 at *
  obtain ⟨t0, d0, b0, ht0, hd0⟩ := subx x0 y0 0 px0 py0 bi0
  obtain ⟨t1, d1, b1, ht1, hd1⟩ := subx x1 y1 d0 px1 py1 hd0
  obtain ⟨t2, d2, b2, ht2, hd2⟩ := subx x2 y2 d1 px2 py2 hd1
  obtain ⟨t3, d3, b3, ht3, hd3⟩ := subx x3 y3 d2 px3 py3 hd2
  have V := sub_val n m x0 x1 x2 x3 y0 y1 y2 y3 t0 t1 t2 t3 d0 d1 d2 d3 rn rm ex ey b0 b1 b2 b3 ht0 ht1 ht2 ht3 hd3
  have HV : Hid ((t0 + t1 * 18446744073709551616 + t2 * 340282366920938463463374607431768211456 + t3 * 6277101735386680763835789423207666416102355444464034512896 = (n - m) + d3 * 115792089237316195423570985008687907853269984665640564039457584007913129639936) ∧ ((n - m) + d3 * 7237005577332262213973186563042994240857116359379907606001950938285454250989 = (n - m) % L)) := V
  have B0 := sub64 _ _ _ t0 d0 px0 py0 bi0 b0 ht0 hd0
  have B1 := sub64 _ _ _ t1 d1 px1 py1 hd0 b1 ht1 hd1
  have B2 := sub64 _ _ _ t2 d2 px2 py2 hd1 b2 ht2 hd2
  have B3 := sub64 _ _ _ t3 d3 px3 py3 hd2 b3 ht3 hd3
  clear V b0 b1 b2 b3 ex ey
  go_enter Tryz.func108, Tryz.ntmps108
  go_wp2_with fail
  go_region
  go_wp2_with fail
  go_region
  go_wp2_with fail
  go_region
  go_wp2_with fail
  go_region
  go_wp2_with fail
  have R := rl_mod (n - m)
  refine (setAbove_o z o c T ho t0 t1 t2 t3 d3 (n - m) ht0 ht1 ht2 ht3 hd3 HV.out.1 ?_ ?_ _ ?_).mono ?_
  · rw [HV.out.2]; exact R.1
  · rw [HV.out.2]; unfold RL at R; omega
  · exact hz
  rintro e w' ⟨rfl, hn, hg⟩
  rw [HV.out.2] at hn
  go_wp2_with fail
  go_end0
  exact ⟨rfl, hn, ⟨hg.os, hg.tape, hg.output, hg.size, hg.block⟩⟩
set_option maxHeartbeats 1000000 in
set_option maxRecDepth 100000 in
theorem add_o (z o : Nat) (c : Array Value) (T : TypeId) (y : Nat) (n m : Int) (rn : RL n) (rm : RL m) (w : World) (hz : Blk w z c T) (hc : Wc c o n) (hy : NumAt w y m) :
    Calls Tryz.prog 154 #[.pointer (some ⟨z, o, none⟩), .pointer (some ⟨z, o, none⟩), .pointer (some ⟨y, 0, none⟩)] w fun e w' => e = .returned (.tuple #[]) ∧ Blk w' z (setL c o (wdL ((n + m) % L))) T ∧ w.grownBy w' (some z) := by
  have ho := hc.le
  have kx0 := (hz.cell o).trans hc.1; have kx1 := (hz.cell (o + 1)).trans hc.2.1; have kx2 := (hz.cell (o + 2)).trans hc.2.2.1; have kx3 := (hz.cell (o + 3)).trans hc.2.2.2
  clear hc
  have ky0 := hy.c0; have ky1 := hy.c1; have ky2 := hy.c2; have ky3 := hy.c3
  have ex := wrd_sum n rn.1 (by unfold RL at rn; omega)
  have ey := wrd_sum m rm.1 (by unfold RL at rm; omega)
  have px0 := wrd_wo n 0; have px1 := wrd_wo n 1; have px2 := wrd_wo n 2; have px3 := wrd_wo n 3
  have py0 := wrd_wo m 0; have py1 := wrd_wo m 1; have py2 := wrd_wo m 2; have py3 := wrd_wo m 3
  generalize wrd n 0 = x0 at *; generalize wrd n 1 = x1 at *; generalize wrd n 2 = x2 at *; generalize wrd n 3 = x3 at *
  generalize wrd m 0 = y0 at *; generalize wrd m 1 = y1 at *; generalize wrd m 2 = y2 at *; generalize wrd m 3 = y3 at *
  have o0 : Wo 6346243789798364141 := by unfold Wo; omega
  have o1 : Wo 1503914060200516822 := by unfold Wo; omega
  have o3 : Wo 1152921504606846976 := by unfold Wo; omega
  obtain ⟨s0, c0, a0, hs0, hc0⟩ := addx x0 y0 0 px0 py0 bi0
  obtain ⟨s1, c1, a1, hs1, hc1⟩ := addx x1 y1 c0 px1 py1 hc0
  obtain ⟨s2, c2, a2, hs2, hc2⟩ := addx x2 y2 c1 px2 py2 hc1
  obtain ⟨s3, c3, a3, hs3, hc3⟩ := addx x3 y3 c2 px3 py3 hc2
  obtain ⟨t0, d0, b0, ht0, hd0⟩ := subx s0 6346243789798364141 0 hs0 o0 bi0
  obtain ⟨t1, d1, b1, ht1, hd1⟩ := subx s1 1503914060200516822 d0 hs1 o1 hd0
  obtain ⟨t2, d2, b2, ht2, hd2⟩ := subx s2 0 d1 hs2 wo0 hd1
  obtain ⟨t3, d3, b3, ht3, hd3⟩ := subx s3 1152921504606846976 d2 hs3 o3 hd2
  have V := add_val n m x0 x1 x2 x3 y0 y1 y2 y3 s0 s1 s2 s3 c0 c1 c2 c3 t0 t1 t2 t3 d0 d1 d2 d3 rn rm ex ey a0 a1 a2 a3 b0 b1 b2 b3 hs0 hs1 hs2 hs3 ht0 ht1 ht2 ht3 hc3 hd3
  have HV : Hid ((t0 + t1 * 18446744073709551616 + t2 * 340282366920938463463374607431768211456 + t3 * 6277101735386680763835789423207666416102355444464034512896 = (n + m - 7237005577332262213973186563042994240857116359379907606001950938285454250989) + d3 * 115792089237316195423570985008687907853269984665640564039457584007913129639936) ∧ ((n + m - 7237005577332262213973186563042994240857116359379907606001950938285454250989) + d3 * 7237005577332262213973186563042994240857116359379907606001950938285454250989 = (n + m) % L)) := V
  have A0 := add64 _ _ _ s0 c0 px0 py0 bi0 a0 hs0
  have A1 := add64 _ _ _ s1 c1 px1 py1 hc0 a1 hs1
  have A2 := add64 _ _ _ s2 c2 px2 py2 hc1 a2 hs2
  have A3 := add64 _ _ _ s3 c3 px3 py3 hc2 a3 hs3
  have B0 := sub64 _ _ _ t0 d0 hs0 o0 bi0 b0 ht0 hd0
  have B1 := sub64 _ _ _ t1 d1 hs1 o1 hd0 b1 ht1 hd1
  have B2 := sub64 _ _ _ t2 d2 hs2 wo0 hd1 b2 ht2 hd2
  have B3 := sub64 _ _ _ t3 d3 hs3 o3 hd2 b3 ht3 hd3
  clear V a0 a1 a2 a3 b0 b1 b2 b3 ex ey
  go_enter Tryz.func154, Tryz.ntmps154
  go_wp2_with fail
  go_region
  go_wp2_with fail
  go_region
  go_wp2_with fail
  go_region
  go_wp2_with fail
  go_region
  go_wp2_with (first | simp only [B0] | simp only [B1] | simp only [B2] | simp only [B3])
  have R := rl_mod (n + m)
  refine (setAbove_o z o c T ho t0 t1 t2 t3 d3 (n + m - 7237005577332262213973186563042994240857116359379907606001950938285454250989) ht0 ht1 ht2 ht3 hd3 HV.out.1 ?_ ?_ _ ?_).mono ?_
  · rw [HV.out.2]; exact R.1
  · rw [HV.out.2]; unfold RL at R; omega
  · exact hz
  rintro e w' ⟨rfl, hn, hg⟩
  rw [HV.out.2] at hn
  go_wp2_with fail
  go_end0
  exact ⟨rfl, hn, ⟨hg.os, hg.tape, hg.output, hg.size, hg.block⟩⟩
end Go.Proofs.YtoafcaieifjoiaaGreat

/- (*wide).addProduct, x within a block. -/
namespace Go.Proofs.YtoafcaieifjoiaaGreat
open Go.RowKit N

set_option maxHeartbeats 4000000 in
set_option maxRecDepth 100000 in
theorem addProduct_o (W x o : Nat) (c : Array Value) (T : TypeId) (y : Nat) (a n m : Int) (ha0 : 0 ≤ a) (ha1 : a < 115792089237316195423570985008687907853269984665640564039457584007913129639936) (rn : RL n) (rm : RL m) (w : World) (hW : WideAt w W a) (hx : Blk w x c T) (hc : Wc c o n) (hy : NumAt w y m) :
    Calls Tryz.prog 124 #[.pointer (some ⟨W, 0, none⟩), .pointer (some ⟨x, o, none⟩), .pointer (some ⟨y, 0, none⟩)] w fun e w' => e = .returned (.tuple #[]) ∧ WideAt w' W (a + n * m) ∧ Chg w w' [W] := by
  have kx0 := (hx.cell o).trans hc.1; have kx1 := (hx.cell (o + 1)).trans hc.2.1; have kx2 := (hx.cell (o + 2)).trans hc.2.2.1; have kx3 := (hx.cell (o + 3)).trans hc.2.2.2
  obtain ⟨lx0, lx1, lx2, lx3⟩ := hc
  have ky0 := hy.c0; have ky1 := hy.c1; have ky2 := hy.c2; have ky3 := hy.c3
  have kw0 := hW.c0; have kw1 := hW.c1; have kw2 := hW.c2; have kw3 := hW.c3
  have ex := wrd_sum n rn.1 (by unfold RL at rn; omega)
  have ey := wrd_sum m rm.1 (by unfold RL at rm; omega)
  have ea := wrd_sum a ha0 ha1
  have HW : Blk w W #[.int .u64 (wrd a 0), .int .u64 (wrd a 1), .int .u64 (wrd a 2), .int .u64 (wrd a 3), .int .u64 (wrd a 4), .int .u64 (wrd a 5), .int .u64 (wrd a 6), .int .u64 (wrd a 7)] 202 := hW
  have HX0 : Blk w x c T := hx
  clear hx hy hW
  have qx0 := wrd_wo n 0
  have qx1 := wrd_wo n 1
  have qx2 := wrd_wo n 2
  have qx3 := wrd_wo n 3
  have qy0 := wrd_wo m 0
  have qy1 := wrd_wo m 1
  have qy2 := wrd_wo m 2
  have qy3 := wrd_wo m 3
  have qw0 := wrd_wo a 0
  have qw1 := wrd_wo a 1
  have qw2 := wrd_wo a 2
  have qw3 := wrd_wo a 3
  generalize wrd n 0 = x0 at *
  generalize wrd n 1 = x1 at *
  generalize wrd n 2 = x2 at *
  generalize wrd n 3 = x3 at *
  generalize wrd m 0 = y0 at *
  generalize wrd m 1 = y1 at *
  generalize wrd m 2 = y2 at *
  generalize wrd m 3 = y3 at *
  generalize wrd a 0 = w0 at *
  generalize wrd a 1 = w1 at *
  generalize wrd a 2 = w2 at *
  generalize wrd a 3 = w3 at *
  obtain ⟨r0, c0, h0, Wr0, Wc0⟩ := stepx x0 y0 w0 0 qx0 qy0 qw0 wo0
  have S0 := step_any x0 y0 w0 0 r0 c0 qx0 qy0 qw0 wo0 h0 Wr0 Wc0
  obtain ⟨r1, c1, h1, Wr1, Wc1⟩ := stepx x0 y1 w1 c0 qx0 qy1 qw1 Wc0
  have S1 := step_any x0 y1 w1 c0 r1 c1 qx0 qy1 qw1 Wc0 h1 Wr1 Wc1
  obtain ⟨r2, c2, h2, Wr2, Wc2⟩ := stepx x0 y2 w2 c1 qx0 qy2 qw2 Wc1
  have S2 := step_any x0 y2 w2 c1 r2 c2 qx0 qy2 qw2 Wc1 h2 Wr2 Wc2
  obtain ⟨r3, r4, h3, Wr3, Wr4⟩ := stepx x0 y3 w3 c2 qx0 qy3 qw3 Wc2
  have S3 := step_any x0 y3 w3 c2 r3 r4 qx0 qy3 qw3 Wc2 h3 Wr3 Wr4
  obtain ⟨s1, d0, h4, Ws1, Wd0⟩ := stepx x1 y0 r1 0 qx1 qy0 Wr1 wo0
  have S4 := step_any x1 y0 r1 0 s1 d0 qx1 qy0 Wr1 wo0 h4 Ws1 Wd0
  obtain ⟨s2, d1, h5, Ws2, Wd1⟩ := stepx x1 y1 r2 d0 qx1 qy1 Wr2 Wd0
  have S5 := step_any x1 y1 r2 d0 s2 d1 qx1 qy1 Wr2 Wd0 h5 Ws2 Wd1
  obtain ⟨s3, d2, h6, Ws3, Wd2⟩ := stepx x1 y2 r3 d1 qx1 qy2 Wr3 Wd1
  have S6 := step_any x1 y2 r3 d1 s3 d2 qx1 qy2 Wr3 Wd1 h6 Ws3 Wd2
  obtain ⟨s4, s5, h7, Ws4, Ws5⟩ := stepx x1 y3 r4 d2 qx1 qy3 Wr4 Wd2
  have S7 := step_any x1 y3 r4 d2 s4 s5 qx1 qy3 Wr4 Wd2 h7 Ws4 Ws5
  obtain ⟨t2, e0, h8, Wt2, We0⟩ := stepx x2 y0 s2 0 qx2 qy0 Ws2 wo0
  have S8 := step_any x2 y0 s2 0 t2 e0 qx2 qy0 Ws2 wo0 h8 Wt2 We0
  obtain ⟨t3, e1, h9, Wt3, We1⟩ := stepx x2 y1 s3 e0 qx2 qy1 Ws3 We0
  have S9 := step_any x2 y1 s3 e0 t3 e1 qx2 qy1 Ws3 We0 h9 Wt3 We1
  obtain ⟨t4, e2, h10, Wt4, We2⟩ := stepx x2 y2 s4 e1 qx2 qy2 Ws4 We1
  have S10 := step_any x2 y2 s4 e1 t4 e2 qx2 qy2 Ws4 We1 h10 Wt4 We2
  obtain ⟨t5, t6, h11, Wt5, Wt6⟩ := stepx x2 y3 s5 e2 qx2 qy3 Ws5 We2
  have S11 := step_any x2 y3 s5 e2 t5 t6 qx2 qy3 Ws5 We2 h11 Wt5 Wt6
  obtain ⟨u3, f0, h12, Wu3, Wf0⟩ := stepx x3 y0 t3 0 qx3 qy0 Wt3 wo0
  have S12 := step_any x3 y0 t3 0 u3 f0 qx3 qy0 Wt3 wo0 h12 Wu3 Wf0
  obtain ⟨u4, f1, h13, Wu4, Wf1⟩ := stepx x3 y1 t4 f0 qx3 qy1 Wt4 Wf0
  have S13 := step_any x3 y1 t4 f0 u4 f1 qx3 qy1 Wt4 Wf0 h13 Wu4 Wf1
  obtain ⟨u5, f2, h14, Wu5, Wf2⟩ := stepx x3 y2 t5 f1 qx3 qy2 Wt5 Wf1
  have S14 := step_any x3 y2 t5 f1 u5 f2 qx3 qy2 Wt5 Wf1 h14 Wu5 Wf2
  obtain ⟨u6, u7, h15, Wu6, Wu7⟩ := stepx x3 y3 t6 f2 qx3 qy3 Wt6 Wf2
  have S15 := step_any x3 y3 t6 f2 u6 u7 qx3 qy3 Wt6 Wf2 h15 Wu6 Wu7
  have V := prod_lin a (x0 * y0) (x0 * y1) (x0 * y2) (x0 * y3) (x1 * y0) (x1 * y1) (x1 * y2) (x1 * y3) (x2 * y0) (x2 * y1) (x2 * y2) (x2 * y3) (x3 * y0) (x3 * y1) (x3 * y2) (x3 * y3) w0 w1 w2 w3 r0 c0 r1 c1 r2 c2 r3 r4 s1 d0 s2 d1 s3 d2 s4 s5 t2 e0 t3 e1 t4 e2 t5 t6 u3 f0 u4 f1 u5 f2 u6 u7 ea h0 h1 h2 h3 h4 h5 h6 h7 h8 h9 h10 h11 h12 h13 h14 h15
  rw [← prod_exp, ex, ey] at V
  obtain ⟨j0, j1, j2, j3, j4, j5, j6, j7⟩ := wrd_is8 _ r0 s1 t2 u3 u4 u5 u6 u7 Wr0 Ws1 Wt2 Wu3 Wu4 Wu5 Wu6 Wu7 V
  unfold WideAt wd8
  rw [← j0, ← j1, ← j2, ← j3, ← j4, ← j5, ← j6, ← j7]
  clear j0 j1 j2 j3 j4 j5 j6 j7 V ex ey ea h0 h1 h2 h3 h4 h5 h6 h7 h8 h9 h10 h11 h12 h13 h14 h15 Wc0 Wc1 Wc2 Wd0 Wd1 Wd2 We0 We1 We2 Wf0 Wf1 Wf2 Wr0 Wr1 Wr2 Wr3 Wr4 Ws1 Ws2 Ws3 Ws4 Ws5 Wt2 Wt3 Wt4 Wt5 Wt6 Wu3 Wu4 Wu5 Wu6 Wu7 qw0 qw1 qw2 qw3 qx0 qx1 qx2 qx3 qy0 qy1 qy2 qy3
  go_enter Tryz.func124, Tryz.ntmps124
  go_wp2_with fail
  go_quiet (fail)
  generalize hwq : World.drewN w _ = wq
  have CQ : Chg w wq [] := by rw [← hwq]; exact (Chg.refl w _).drewN _
  replace HW := HW.chg CQ (by simp)
  have HX : Blk wq x c T := HX0.chg CQ (by simp)
  have HLX : Hid (c[o]? = some (.int .u64 x0) ∧ c[o + 1]? = some (.int .u64 x1) ∧ c[o + 2]? = some (.int .u64 x2) ∧ c[o + 3]? = some (.int .u64 x3)) := ⟨lx0, lx1, lx2, lx3⟩
  clear lx0 lx1 lx2 lx3
  clear hwq kx0 kx1 kx2 kx3 ky0 ky1 ky2 ky3 kw0 kw1 kw2 kw3 HX0
  go_wp2_with fail
  refine wp_region_held_drew (S := fun w' => Chg wq w' []) (by kernel_rfl) ((Chg.refl wq _).drew) (fun hHeld => ?_)
  refine tv (v := ?_) 0 (some 36) rfl (by kernel_rfl) (fun _ _ _ h => h) rfl rfl (fun w hSw => ?_) hHeld ?_; rotate_left; (· (go_simp; try with_reducible rfl)); try simp only [Act.put, sA1, sA2, sA3]
  refine tv (v := ?_) 1 (some 37) rfl (by kernel_rfl) (fun _ _ _ h => h) rfl rfl (fun w hSw => ?_) hHeld ?_; rotate_left; (· (go_simp; try with_reducible rfl)); try simp only [Act.put, sA1, sA2, sA3]
  refine tv (v := ?_) 2 (some 38) rfl (by kernel_rfl) (fun _ _ _ h => h) rfl rfl (fun w hSw => ?_) hHeld ?_; rotate_left; (· (go_simp; try with_reducible rfl)); try simp only [Act.put, sA1, sA2, sA3]
  refine tv (v := ?_) 3 (some 39) rfl (by kernel_rfl) (fun _ _ _ h => h) rfl rfl (fun w hSw => ?_) hHeld ?_
  rotate_left
  · have cx := ((HX.chg hSw (by simp)).cell (o)).trans HLX.out.1
    (go_simp; try with_reducible rfl)
  try simp only [Act.put, sA1, sA2, sA3]
  refine tv (v := ?_) 4 (some 40) rfl (by kernel_rfl) (fun _ _ _ h => h) rfl rfl (fun w hSw => ?_) hHeld ?_; rotate_left; (· (go_simp; try with_reducible rfl)); try simp only [Act.put, sA1, sA2, sA3]
  refine tv (v := ?_) 5 (some 41) rfl (by kernel_rfl) (fun _ _ _ h => h) rfl rfl (fun w hSw => ?_) hHeld ?_; rotate_left; (· (go_simp; try with_reducible rfl)); try simp only [Act.put, sA1, sA2, sA3]
  refine tv (v := ?_) 6 (some 42) rfl (by kernel_rfl) (fun _ _ _ h => h) rfl rfl (fun w hSw => ?_) hHeld ?_; rotate_left; (· (go_simp; try with_reducible rfl)); try simp only [Act.put, sA1, sA2, sA3]
  refine tv (v := ?_) 7 (some 43) rfl (by kernel_rfl) (fun _ _ _ h => h) rfl rfl (fun w hSw => ?_) hHeld ?_; rotate_left; (· (go_simp; try with_reducible rfl)); try simp only [Act.put, sA1, sA2, sA3]
  refine tv (v := ?_) 8 (some 44) rfl (by kernel_rfl) (fun _ _ _ h => h) rfl rfl (fun w hSw => ?_) hHeld ?_
  rotate_left
  · have cx := (HW.chg hSw (by simp)).cell 0
    (go_simp; try with_reducible rfl)
  try simp only [Act.put, sA1, sA2, sA3]
  refine wpAnyH_ready (rs := [9]) (by kernel_rfl) (by simp) ?_
  refine AllReadyH.cons (o := _) rfl (fun K hK => ?_) ?_
  ·
    go_simp
    refine (S0 _).mono ?_
    rintro e wz ⟨rfl, rfl⟩
    go_wp2_with fail
    refine hK.out _ _ (hHeld) (fun hHeld => ?_)
    clear hK K
    try simp only [Act.put, sA1, sA2, sA3]
    refine tv (v := ?_) 10 (some 35) rfl (by kernel_rfl) (fun _ _ _ h => h) rfl rfl (fun w hSw => ?_) hHeld ?_; rotate_left; (· (go_simp; try with_reducible rfl)); try simp only [Act.put, sA1, sA2, sA3]
    refine tv (v := ?_) 11 (some 46) rfl (by kernel_rfl) (fun _ _ _ h => h) rfl rfl (fun w hSw => ?_) hHeld ?_; rotate_left; (· (go_simp; try with_reducible rfl)); try simp only [Act.put, sA1, sA2, sA3]
    refine tv (v := ?_) 12 (some 47) rfl (by kernel_rfl) (fun _ _ _ h => h) rfl rfl (fun w hSw => ?_) hHeld ?_; rotate_left; (· (go_simp; try with_reducible rfl)); try simp only [Act.put, sA1, sA2, sA3]
    refine tv (v := ?_) 13 (some 10) rfl (by kernel_rfl) (fun _ _ _ h => h) rfl rfl (fun w hSw => ?_) hHeld ?_; rotate_left; (· (go_simp; try with_reducible rfl)); try simp only [Act.put, sA1, sA2, sA3]
    refine tv (v := ?_) 14 (some 11) rfl (by kernel_rfl) (fun _ _ _ h => h) rfl rfl (fun w hSw => ?_) hHeld ?_; rotate_left; (· (go_simp; try with_reducible rfl)); try simp only [Act.put, sA1, sA2, sA3]
    refine wpAnyH_done (by kernel_rfl) ?_ _
    replace HW := HW.drew
    replace HX := HX.drew
    replace CQ := CQ.drew
    clear hHeld
    generalize World.drew wq = wq at *
    clear S0
    go_wp2_with fail
    refine wp_region_held_drew (S := fun w' => Chg wq w' []) (by kernel_rfl) ((Chg.refl wq _).drew) (fun hHeld => ?_)
    refine tv (v := ?_) 0 (some 49) rfl (by kernel_rfl) (fun _ _ _ h => h) rfl rfl (fun w hSw => ?_) hHeld ?_; rotate_left; (· (go_simp; try with_reducible rfl)); try simp only [Act.put, sA1, sA2, sA3]
    refine tv (v := ?_) 1 (some 50) rfl (by kernel_rfl) (fun _ _ _ h => h) rfl rfl (fun w hSw => ?_) hHeld ?_; rotate_left; (· (go_simp; try with_reducible rfl)); try simp only [Act.put, sA1, sA2, sA3]
    refine tv (v := ?_) 2 (some 51) rfl (by kernel_rfl) (fun _ _ _ h => h) rfl rfl (fun w hSw => ?_) hHeld ?_; rotate_left; (· (go_simp; try with_reducible rfl)); try simp only [Act.put, sA1, sA2, sA3]
    refine tv (v := ?_) 3 (some 52) rfl (by kernel_rfl) (fun _ _ _ h => h) rfl rfl (fun w hSw => ?_) hHeld ?_
    rotate_left
    · have cx := ((HX.chg hSw (by simp)).cell (o)).trans HLX.out.1
      (go_simp; try with_reducible rfl)
    try simp only [Act.put, sA1, sA2, sA3]
    refine tv (v := ?_) 4 (some 53) rfl (by kernel_rfl) (fun _ _ _ h => h) rfl rfl (fun w hSw => ?_) hHeld ?_; rotate_left; (· (go_simp; try with_reducible rfl)); try simp only [Act.put, sA1, sA2, sA3]
    refine tv (v := ?_) 5 (some 54) rfl (by kernel_rfl) (fun _ _ _ h => h) rfl rfl (fun w hSw => ?_) hHeld ?_; rotate_left; (· (go_simp; try with_reducible rfl)); try simp only [Act.put, sA1, sA2, sA3]
    refine tv (v := ?_) 6 (some 55) rfl (by kernel_rfl) (fun _ _ _ h => h) rfl rfl (fun w hSw => ?_) hHeld ?_; rotate_left; (· (go_simp; try with_reducible rfl)); try simp only [Act.put, sA1, sA2, sA3]
    refine tv (v := ?_) 7 (some 56) rfl (by kernel_rfl) (fun _ _ _ h => h) rfl rfl (fun w hSw => ?_) hHeld ?_; rotate_left; (· (go_simp; try with_reducible rfl)); try simp only [Act.put, sA1, sA2, sA3]
    refine tv (v := ?_) 8 (some 57) rfl (by kernel_rfl) (fun _ _ _ h => h) rfl rfl (fun w hSw => ?_) hHeld ?_
    rotate_left
    · have cx := (HW.chg hSw (by simp)).cell 1
      (go_simp; try with_reducible rfl)
    try simp only [Act.put, sA1, sA2, sA3]
    refine tv (v := ?_) 9 (some 58) rfl (by kernel_rfl) (fun _ _ _ h => h) rfl rfl (fun w hSw => ?_) hHeld ?_; rotate_left; (· (go_simp; try with_reducible rfl)); try simp only [Act.put, sA1, sA2, sA3]
    refine wpAnyH_ready (rs := [10]) (by kernel_rfl) (by simp) ?_
    refine AllReadyH.cons (o := _) rfl (fun K hK => ?_) ?_
    ·
      go_simp
      refine (S1 _).mono ?_
      rintro e wz ⟨rfl, rfl⟩
      go_wp2_with fail
      refine hK.out _ _ (hHeld) (fun hHeld => ?_)
      clear hK K
      try simp only [Act.put, sA1, sA2, sA3]
      refine tv (v := ?_) 11 (some 48) rfl (by kernel_rfl) (fun _ _ _ h => h) rfl rfl (fun w hSw => ?_) hHeld ?_; rotate_left; (· (go_simp; try with_reducible rfl)); try simp only [Act.put, sA1, sA2, sA3]
      refine tv (v := ?_) 12 (some 60) rfl (by kernel_rfl) (fun _ _ _ h => h) rfl rfl (fun w hSw => ?_) hHeld ?_; rotate_left; (· (go_simp; try with_reducible rfl)); try simp only [Act.put, sA1, sA2, sA3]
      refine tv (v := ?_) 13 (some 61) rfl (by kernel_rfl) (fun _ _ _ h => h) rfl rfl (fun w hSw => ?_) hHeld ?_; rotate_left; (· (go_simp; try with_reducible rfl)); try simp only [Act.put, sA1, sA2, sA3]
      refine tv (v := ?_) 14 (some 10) rfl (by kernel_rfl) (fun _ _ _ h => h) rfl rfl (fun w hSw => ?_) hHeld ?_; rotate_left; (· (go_simp; try with_reducible rfl)); try simp only [Act.put, sA1, sA2, sA3]
      refine tv (v := ?_) 15 (some 12) rfl (by kernel_rfl) (fun _ _ _ h => h) rfl rfl (fun w hSw => ?_) hHeld ?_; rotate_left; (· (go_simp; try with_reducible rfl)); try simp only [Act.put, sA1, sA2, sA3]
      refine wpAnyH_done (by kernel_rfl) ?_ _
      replace HW := HW.drew
      replace HX := HX.drew
      replace CQ := CQ.drew
      clear hHeld
      generalize World.drew wq = wq at *
      clear S1
      go_wp2_with fail
      refine wp_region_held_drew (S := fun w' => Chg wq w' []) (by kernel_rfl) ((Chg.refl wq _).drew) (fun hHeld => ?_)
      refine tv (v := ?_) 0 (some 63) rfl (by kernel_rfl) (fun _ _ _ h => h) rfl rfl (fun w hSw => ?_) hHeld ?_; rotate_left; (· (go_simp; try with_reducible rfl)); try simp only [Act.put, sA1, sA2, sA3]
      refine tv (v := ?_) 1 (some 64) rfl (by kernel_rfl) (fun _ _ _ h => h) rfl rfl (fun w hSw => ?_) hHeld ?_; rotate_left; (· (go_simp; try with_reducible rfl)); try simp only [Act.put, sA1, sA2, sA3]
      refine tv (v := ?_) 2 (some 65) rfl (by kernel_rfl) (fun _ _ _ h => h) rfl rfl (fun w hSw => ?_) hHeld ?_; rotate_left; (· (go_simp; try with_reducible rfl)); try simp only [Act.put, sA1, sA2, sA3]
      refine tv (v := ?_) 3 (some 66) rfl (by kernel_rfl) (fun _ _ _ h => h) rfl rfl (fun w hSw => ?_) hHeld ?_
      rotate_left
      · have cx := ((HX.chg hSw (by simp)).cell (o)).trans HLX.out.1
        (go_simp; try with_reducible rfl)
      try simp only [Act.put, sA1, sA2, sA3]
      refine tv (v := ?_) 4 (some 67) rfl (by kernel_rfl) (fun _ _ _ h => h) rfl rfl (fun w hSw => ?_) hHeld ?_; rotate_left; (· (go_simp; try with_reducible rfl)); try simp only [Act.put, sA1, sA2, sA3]
      refine tv (v := ?_) 5 (some 68) rfl (by kernel_rfl) (fun _ _ _ h => h) rfl rfl (fun w hSw => ?_) hHeld ?_; rotate_left; (· (go_simp; try with_reducible rfl)); try simp only [Act.put, sA1, sA2, sA3]
      refine tv (v := ?_) 6 (some 69) rfl (by kernel_rfl) (fun _ _ _ h => h) rfl rfl (fun w hSw => ?_) hHeld ?_; rotate_left; (· (go_simp; try with_reducible rfl)); try simp only [Act.put, sA1, sA2, sA3]
      refine tv (v := ?_) 7 (some 70) rfl (by kernel_rfl) (fun _ _ _ h => h) rfl rfl (fun w hSw => ?_) hHeld ?_; rotate_left; (· (go_simp; try with_reducible rfl)); try simp only [Act.put, sA1, sA2, sA3]
      refine tv (v := ?_) 8 (some 71) rfl (by kernel_rfl) (fun _ _ _ h => h) rfl rfl (fun w hSw => ?_) hHeld ?_
      rotate_left
      · have cx := (HW.chg hSw (by simp)).cell 2
        (go_simp; try with_reducible rfl)
      try simp only [Act.put, sA1, sA2, sA3]
      refine tv (v := ?_) 9 (some 72) rfl (by kernel_rfl) (fun _ _ _ h => h) rfl rfl (fun w hSw => ?_) hHeld ?_; rotate_left; (· (go_simp; try with_reducible rfl)); try simp only [Act.put, sA1, sA2, sA3]
      refine wpAnyH_ready (rs := [10]) (by kernel_rfl) (by simp) ?_
      refine AllReadyH.cons (o := _) rfl (fun K hK => ?_) ?_
      ·
        go_simp
        refine (S2 _).mono ?_
        rintro e wz ⟨rfl, rfl⟩
        go_wp2_with fail
        refine hK.out _ _ (hHeld) (fun hHeld => ?_)
        clear hK K
        try simp only [Act.put, sA1, sA2, sA3]
        refine tv (v := ?_) 11 (some 62) rfl (by kernel_rfl) (fun _ _ _ h => h) rfl rfl (fun w hSw => ?_) hHeld ?_; rotate_left; (· (go_simp; try with_reducible rfl)); try simp only [Act.put, sA1, sA2, sA3]
        refine tv (v := ?_) 12 (some 74) rfl (by kernel_rfl) (fun _ _ _ h => h) rfl rfl (fun w hSw => ?_) hHeld ?_; rotate_left; (· (go_simp; try with_reducible rfl)); try simp only [Act.put, sA1, sA2, sA3]
        refine tv (v := ?_) 13 (some 75) rfl (by kernel_rfl) (fun _ _ _ h => h) rfl rfl (fun w hSw => ?_) hHeld ?_; rotate_left; (· (go_simp; try with_reducible rfl)); try simp only [Act.put, sA1, sA2, sA3]
        refine tv (v := ?_) 14 (some 10) rfl (by kernel_rfl) (fun _ _ _ h => h) rfl rfl (fun w hSw => ?_) hHeld ?_; rotate_left; (· (go_simp; try with_reducible rfl)); try simp only [Act.put, sA1, sA2, sA3]
        refine tv (v := ?_) 15 (some 13) rfl (by kernel_rfl) (fun _ _ _ h => h) rfl rfl (fun w hSw => ?_) hHeld ?_; rotate_left; (· (go_simp; try with_reducible rfl)); try simp only [Act.put, sA1, sA2, sA3]
        refine wpAnyH_done (by kernel_rfl) ?_ _
        replace HW := HW.drew
        replace HX := HX.drew
        replace CQ := CQ.drew
        clear hHeld
        generalize World.drew wq = wq at *
        clear S2
        go_wp2_with fail
        refine wp_region_held_drew (S := fun w' => Chg wq w' []) (by kernel_rfl) ((Chg.refl wq _).drew) (fun hHeld => ?_)
        refine tv (v := ?_) 0 (some 77) rfl (by kernel_rfl) (fun _ _ _ h => h) rfl rfl (fun w hSw => ?_) hHeld ?_; rotate_left; (· (go_simp; try with_reducible rfl)); try simp only [Act.put, sA1, sA2, sA3]
        refine tv (v := ?_) 1 (some 78) rfl (by kernel_rfl) (fun _ _ _ h => h) rfl rfl (fun w hSw => ?_) hHeld ?_; rotate_left; (· (go_simp; try with_reducible rfl)); try simp only [Act.put, sA1, sA2, sA3]
        refine tv (v := ?_) 2 (some 79) rfl (by kernel_rfl) (fun _ _ _ h => h) rfl rfl (fun w hSw => ?_) hHeld ?_; rotate_left; (· (go_simp; try with_reducible rfl)); try simp only [Act.put, sA1, sA2, sA3]
        refine tv (v := ?_) 3 (some 80) rfl (by kernel_rfl) (fun _ _ _ h => h) rfl rfl (fun w hSw => ?_) hHeld ?_
        rotate_left
        · have cx := ((HX.chg hSw (by simp)).cell (o)).trans HLX.out.1
          (go_simp; try with_reducible rfl)
        try simp only [Act.put, sA1, sA2, sA3]
        refine tv (v := ?_) 4 (some 81) rfl (by kernel_rfl) (fun _ _ _ h => h) rfl rfl (fun w hSw => ?_) hHeld ?_; rotate_left; (· (go_simp; try with_reducible rfl)); try simp only [Act.put, sA1, sA2, sA3]
        refine tv (v := ?_) 5 (some 82) rfl (by kernel_rfl) (fun _ _ _ h => h) rfl rfl (fun w hSw => ?_) hHeld ?_; rotate_left; (· (go_simp; try with_reducible rfl)); try simp only [Act.put, sA1, sA2, sA3]
        refine tv (v := ?_) 6 (some 83) rfl (by kernel_rfl) (fun _ _ _ h => h) rfl rfl (fun w hSw => ?_) hHeld ?_; rotate_left; (· (go_simp; try with_reducible rfl)); try simp only [Act.put, sA1, sA2, sA3]
        refine tv (v := ?_) 7 (some 84) rfl (by kernel_rfl) (fun _ _ _ h => h) rfl rfl (fun w hSw => ?_) hHeld ?_; rotate_left; (· (go_simp; try with_reducible rfl)); try simp only [Act.put, sA1, sA2, sA3]
        refine tv (v := ?_) 8 (some 85) rfl (by kernel_rfl) (fun _ _ _ h => h) rfl rfl (fun w hSw => ?_) hHeld ?_
        rotate_left
        · have cx := (HW.chg hSw (by simp)).cell 3
          (go_simp; try with_reducible rfl)
        try simp only [Act.put, sA1, sA2, sA3]
        refine tv (v := ?_) 9 (some 86) rfl (by kernel_rfl) (fun _ _ _ h => h) rfl rfl (fun w hSw => ?_) hHeld ?_; rotate_left; (· (go_simp; try with_reducible rfl)); try simp only [Act.put, sA1, sA2, sA3]
        refine wpAnyH_ready (rs := [10]) (by kernel_rfl) (by simp) ?_
        refine AllReadyH.cons (o := _) rfl (fun K hK => ?_) ?_
        ·
          go_simp
          refine (S3 _).mono ?_
          rintro e wz ⟨rfl, rfl⟩
          go_wp2_with fail
          refine hK.out _ _ (hHeld) (fun hHeld => ?_)
          clear hK K
          try simp only [Act.put, sA1, sA2, sA3]
          refine tv (v := ?_) 11 (some 76) rfl (by kernel_rfl) (fun _ _ _ h => h) rfl rfl (fun w hSw => ?_) hHeld ?_; rotate_left; (· (go_simp; try with_reducible rfl)); try simp only [Act.put, sA1, sA2, sA3]
          refine tv (v := ?_) 12 (some 88) rfl (by kernel_rfl) (fun _ _ _ h => h) rfl rfl (fun w hSw => ?_) hHeld ?_; rotate_left; (· (go_simp; try with_reducible rfl)); try simp only [Act.put, sA1, sA2, sA3]
          refine tv (v := ?_) 13 (some 89) rfl (by kernel_rfl) (fun _ _ _ h => h) rfl rfl (fun w hSw => ?_) hHeld ?_; rotate_left; (· (go_simp; try with_reducible rfl)); try simp only [Act.put, sA1, sA2, sA3]
          refine tv (v := ?_) 14 (some 14) rfl (by kernel_rfl) (fun _ _ _ h => h) rfl rfl (fun w hSw => ?_) hHeld ?_; rotate_left; (· (go_simp; try with_reducible rfl)); try simp only [Act.put, sA1, sA2, sA3]
          refine tv (v := ?_) 15 (some 15) rfl (by kernel_rfl) (fun _ _ _ h => h) rfl rfl (fun w hSw => ?_) hHeld ?_; rotate_left; (· (go_simp; try with_reducible rfl)); try simp only [Act.put, sA1, sA2, sA3]
          refine wpAnyH_done (by kernel_rfl) ?_ _
          replace HW := HW.drew
          replace HX := HX.drew
          replace CQ := CQ.drew
          clear hHeld
          generalize World.drew wq = wq at *
          clear S3
          have cx1 := (HX.cell (o + 1)).trans HLX.out.2.1; have cx2 := (HX.cell (o + 2)).trans HLX.out.2.2.1; have cx3 := (HX.cell (o + 3)).trans HLX.out.2.2.2
          go_wp2_with fail
          refine (S4 _).mono ?_
          rintro e wq ⟨rfl, rfl⟩
          clear S4
          go_wp2_with fail
          refine (S5 _).mono ?_
          rintro e wq ⟨rfl, rfl⟩
          clear S5
          go_wp2_with fail
          refine (S6 _).mono ?_
          rintro e wq ⟨rfl, rfl⟩
          clear S6
          go_wp2_with fail
          refine (S7 _).mono ?_
          rintro e wq ⟨rfl, rfl⟩
          clear S7
          go_wp2_with fail
          refine (S8 _).mono ?_
          rintro e wq ⟨rfl, rfl⟩
          clear S8
          go_wp2_with fail
          refine (S9 _).mono ?_
          rintro e wq ⟨rfl, rfl⟩
          clear S9
          go_wp2_with fail
          refine (S10 _).mono ?_
          rintro e wq ⟨rfl, rfl⟩
          clear S10
          go_wp2_with fail
          refine (S11 _).mono ?_
          rintro e wq ⟨rfl, rfl⟩
          clear S11
          go_wp2_with fail
          refine (S12 _).mono ?_
          rintro e wq ⟨rfl, rfl⟩
          clear S12
          go_wp2_with fail
          refine (S13 _).mono ?_
          rintro e wq ⟨rfl, rfl⟩
          clear S13
          go_wp2_with fail
          refine (S14 _).mono ?_
          rintro e wq ⟨rfl, rfl⟩
          clear S14
          go_wp2_with fail
          refine (S15 _).mono ?_
          rintro e wq ⟨rfl, rfl⟩
          clear S15
          go_wp2_with fail
          refine wp_region_held_drew (S := fun w' => Chg wq w' [W]) (by kernel_rfl) ((Chg.refl wq _).drew) (fun hHeld => ?_)
          replace HW := HW.drew
          generalize World.drew wq = ω0 at *
          refine tv (v := ?_) 0 (some 219) rfl (by kernel_rfl) (fun _ _ _ h => h) rfl rfl (fun w hSw => ?_) hHeld ?_; rotate_left; (· (go_simp; try with_reducible rfl)); try simp only [Act.put, sA1, sA2, sA3]
          refine tv (v := ?_) 1 (some 220) rfl (by kernel_rfl) (fun _ _ _ h => h) rfl rfl (fun w hSw => ?_) hHeld ?_; rotate_left; (· (go_simp; try with_reducible rfl)); try simp only [Act.put, sA1, sA2, sA3]
          refine tv (v := ?_) 2 (some 221) rfl (by kernel_rfl) (fun _ _ _ h => h) rfl rfl (fun w hSw => ?_) hHeld ?_; rotate_left; (· (go_simp; try with_reducible rfl)); try simp only [Act.put, sA1, sA2, sA3]
          refine tv (v := ?_) 3 (some 222) rfl (by kernel_rfl) (fun _ _ _ h => h) rfl rfl (fun w hSw => ?_) hHeld ?_; rotate_left; (· (go_simp; try with_reducible rfl)); try simp only [Act.put, sA1, sA2, sA3]
          refine tv (v := ?_) 4 (some 223) rfl (by kernel_rfl) (fun _ _ _ h => h) rfl rfl (fun w hSw => ?_) hHeld ?_; rotate_left; (· (go_simp; try with_reducible rfl)); try simp only [Act.put, sA1, sA2, sA3]
          refine tv (v := ?_) 5 (some 224) rfl (by kernel_rfl) (fun _ _ _ h => h) rfl rfl (fun w hSw => ?_) hHeld ?_; rotate_left; (· (go_simp; try with_reducible rfl)); try simp only [Act.put, sA1, sA2, sA3]
          refine tv (v := ?_) 6 (some 225) rfl (by kernel_rfl) (fun _ _ _ h => h) rfl rfl (fun w hSw => ?_) hHeld ?_; rotate_left; (· (go_simp; try with_reducible rfl)); try simp only [Act.put, sA1, sA2, sA3]
          refine tv (v := ?_) 7 (some 226) rfl (by kernel_rfl) (fun _ _ _ h => h) rfl rfl (fun w hSw => ?_) hHeld ?_; rotate_left; (· (go_simp; try with_reducible rfl)); try simp only [Act.put, sA1, sA2, sA3]
          refine tv (v := ?_) 8 (some 227) rfl (by kernel_rfl) (fun _ _ _ h => h) rfl rfl (fun w hSw => ?_) hHeld ?_; rotate_left; (· (go_simp; try with_reducible rfl)); try simp only [Act.put, sA1, sA2, sA3]
          refine tv (v := ?_) 9 (some 228) rfl (by kernel_rfl) (fun _ _ _ h => h) rfl rfl (fun w hSw => ?_) hHeld ?_; rotate_left; (· (go_simp; try with_reducible rfl)); try simp only [Act.put, sA1, sA2, sA3]
          refine tv (v := ?_) 10 (some 229) rfl (by kernel_rfl) (fun _ _ _ h => h) rfl rfl (fun w hSw => ?_) hHeld ?_; rotate_left; (· (go_simp; try with_reducible rfl)); try simp only [Act.put, sA1, sA2, sA3]
          refine tv (v := ?_) 11 (some 230) rfl (by kernel_rfl) (fun _ _ _ h => h) rfl rfl (fun w hSw => ?_) hHeld ?_; rotate_left; (· (go_simp; try with_reducible rfl)); try simp only [Act.put, sA1, sA2, sA3]
          refine tv (v := ?_) 12 (some 231) rfl (by kernel_rfl) (fun _ _ _ h => h) rfl rfl (fun w hSw => ?_) hHeld ?_; rotate_left; (· (go_simp; try with_reducible rfl)); try simp only [Act.put, sA1, sA2, sA3]
          refine tv (v := ?_) 13 (some 232) rfl (by kernel_rfl) (fun _ _ _ h => h) rfl rfl (fun w hSw => ?_) hHeld ?_; rotate_left; (· (go_simp; try with_reducible rfl)); try simp only [Act.put, sA1, sA2, sA3]
          refine tv (v := ?_) 14 (some 233) rfl (by kernel_rfl) (fun _ _ _ h => h) rfl rfl (fun w hSw => ?_) hHeld ?_; rotate_left; (· (go_simp; try with_reducible rfl)); try simp only [Act.put, sA1, sA2, sA3]
          refine tv (v := ?_) 15 (some 234) rfl (by kernel_rfl) (fun _ _ _ h => h) rfl rfl (fun w hSw => ?_) hHeld ?_; rotate_left; (· (go_simp; try with_reducible rfl)); try simp only [Act.put, sA1, sA2, sA3]
          refine tv (v := ?_) 16 (some 235) rfl (by kernel_rfl) (fun _ _ _ h => h) rfl rfl (fun w hSw => ?_) hHeld ?_; rotate_left; (· (go_simp; try with_reducible rfl)); try simp only [Act.put, sA1, sA2, sA3]
          refine tv (v := ?_) 17 (some 236) rfl (by kernel_rfl) (fun _ _ _ h => h) rfl rfl (fun w hSw => ?_) hHeld ?_; rotate_left; (· (go_simp; try with_reducible rfl)); try simp only [Act.put, sA1, sA2, sA3]
          refine tv (v := ?_) 19 (some 237) rfl (by kernel_rfl) (fun _ _ _ h => h) rfl rfl (fun w hSw => ?_) hHeld ?_; rotate_left; (· (go_simp; try with_reducible rfl)); try simp only [Act.put, sA1, sA2, sA3]
          refine tv (v := ?_) 22 (some 239) rfl (by kernel_rfl) (fun _ _ _ h => h) rfl rfl (fun w hSw => ?_) hHeld ?_; rotate_left; (· (go_simp; try with_reducible rfl)); try simp only [Act.put, sA1, sA2, sA3]
          refine tv (v := ?_) 25 (some 241) rfl (by kernel_rfl) (fun _ _ _ h => h) rfl rfl (fun w hSw => ?_) hHeld ?_; rotate_left; (· (go_simp; try with_reducible rfl)); try simp only [Act.put, sA1, sA2, sA3]
          refine tv (v := ?_) 28 (some 243) rfl (by kernel_rfl) (fun _ _ _ h => h) rfl rfl (fun w hSw => ?_) hHeld ?_; rotate_left; (· (go_simp; try with_reducible rfl)); try simp only [Act.put, sA1, sA2, sA3]
          refine tv (v := ?_) 31 (some 245) rfl (by kernel_rfl) (fun _ _ _ h => h) rfl rfl (fun w hSw => ?_) hHeld ?_; rotate_left; (· (go_simp; try with_reducible rfl)); try simp only [Act.put, sA1, sA2, sA3]
          refine tv (v := ?_) 34 (some 247) rfl (by kernel_rfl) (fun _ _ _ h => h) rfl rfl (fun w hSw => ?_) hHeld ?_; rotate_left; (· (go_simp; try with_reducible rfl)); try simp only [Act.put, sA1, sA2, sA3]
          refine tv (v := ?_) 37 (some 249) rfl (by kernel_rfl) (fun _ _ _ h => h) rfl rfl (fun w hSw => ?_) hHeld ?_; rotate_left; (· (go_simp; try with_reducible rfl)); try simp only [Act.put, sA1, sA2, sA3]
          refine wpAnyH_ready (rs := [18]) (by kernel_rfl) (by simp) ?_
          refine AllReadyH.cons (o := _) rfl (fun K hK => ?_) ?_
          ·
            have ck := HW.cell 0
            have fk := HW.frozen 0
            simp at ck
            rw [if_pos (by rfl)]
            go_simp
            refine hK.out _ _ (hHeld.setIn (by simp) _ _) (fun hHeld => ?_)
            clear hK K
            try simp only [Act.put, sA1, sA2, sA3]
            replace HW := HW.setCell 0 (.int .u64 (r0))
            simp only [sA1, sA2, sA3] at HW
            clear ck fk
            generalize World.setCell ω0 ⟨W, 0, none⟩ (.int .u64 (r0)) = ω1 at *
            refine tv (v := ?_) 20 (some 238) rfl (by kernel_rfl) (fun _ _ _ h => h) rfl rfl (fun w hSw => ?_) hHeld ?_; rotate_left; (· (go_simp; try with_reducible rfl)); try simp only [Act.put, sA1, sA2, sA3]
            refine wpAnyH_ready (rs := [21]) (by kernel_rfl) (by simp) ?_
            refine AllReadyH.cons (o := _) rfl (fun K hK => ?_) ?_
            ·
              have ck := HW.cell 1
              have fk := HW.frozen 1
              simp at ck
              rw [if_pos (by rfl)]
              go_simp
              refine hK.out _ _ (hHeld.setIn (by simp) _ _) (fun hHeld => ?_)
              clear hK K
              try simp only [Act.put, sA1, sA2, sA3]
              replace HW := HW.setCell 1 (.int .u64 (s1))
              simp only [sA1, sA2, sA3] at HW
              clear ck fk
              generalize World.setCell ω1 ⟨W, 1, none⟩ (.int .u64 (s1)) = ω2 at *
              refine tv (v := ?_) 23 (some 240) rfl (by kernel_rfl) (fun _ _ _ h => h) rfl rfl (fun w hSw => ?_) hHeld ?_; rotate_left; (· (go_simp; try with_reducible rfl)); try simp only [Act.put, sA1, sA2, sA3]
              refine wpAnyH_ready (rs := [24]) (by kernel_rfl) (by simp) ?_
              refine AllReadyH.cons (o := _) rfl (fun K hK => ?_) ?_
              ·
                have ck := HW.cell 2
                have fk := HW.frozen 2
                simp at ck
                rw [if_pos (by rfl)]
                go_simp
                refine hK.out _ _ (hHeld.setIn (by simp) _ _) (fun hHeld => ?_)
                clear hK K
                try simp only [Act.put, sA1, sA2, sA3]
                replace HW := HW.setCell 2 (.int .u64 (t2))
                simp only [sA1, sA2, sA3] at HW
                clear ck fk
                generalize World.setCell ω2 ⟨W, 2, none⟩ (.int .u64 (t2)) = ω3 at *
                refine tv (v := ?_) 26 (some 242) rfl (by kernel_rfl) (fun _ _ _ h => h) rfl rfl (fun w hSw => ?_) hHeld ?_; rotate_left; (· (go_simp; try with_reducible rfl)); try simp only [Act.put, sA1, sA2, sA3]
                refine wpAnyH_ready (rs := [27]) (by kernel_rfl) (by simp) ?_
                refine AllReadyH.cons (o := _) rfl (fun K hK => ?_) ?_
                ·
                  have ck := HW.cell 3
                  have fk := HW.frozen 3
                  simp at ck
                  rw [if_pos (by rfl)]
                  go_simp
                  refine hK.out _ _ (hHeld.setIn (by simp) _ _) (fun hHeld => ?_)
                  clear hK K
                  try simp only [Act.put, sA1, sA2, sA3]
                  replace HW := HW.setCell 3 (.int .u64 (u3))
                  simp only [sA1, sA2, sA3] at HW
                  clear ck fk
                  generalize World.setCell ω3 ⟨W, 3, none⟩ (.int .u64 (u3)) = ω4 at *
                  refine tv (v := ?_) 29 (some 244) rfl (by kernel_rfl) (fun _ _ _ h => h) rfl rfl (fun w hSw => ?_) hHeld ?_; rotate_left; (· (go_simp; try with_reducible rfl)); try simp only [Act.put, sA1, sA2, sA3]
                  refine wpAnyH_ready (rs := [30]) (by kernel_rfl) (by simp) ?_
                  refine AllReadyH.cons (o := _) rfl (fun K hK => ?_) ?_
                  ·
                    have ck := HW.cell 4
                    have fk := HW.frozen 4
                    simp at ck
                    rw [if_pos (by rfl)]
                    go_simp
                    refine hK.out _ _ (hHeld.setIn (by simp) _ _) (fun hHeld => ?_)
                    clear hK K
                    try simp only [Act.put, sA1, sA2, sA3]
                    replace HW := HW.setCell 4 (.int .u64 (u4))
                    simp only [sA1, sA2, sA3] at HW
                    clear ck fk
                    generalize World.setCell ω4 ⟨W, 4, none⟩ (.int .u64 (u4)) = ω5 at *
                    refine tv (v := ?_) 32 (some 246) rfl (by kernel_rfl) (fun _ _ _ h => h) rfl rfl (fun w hSw => ?_) hHeld ?_; rotate_left; (· (go_simp; try with_reducible rfl)); try simp only [Act.put, sA1, sA2, sA3]
                    refine wpAnyH_ready (rs := [33]) (by kernel_rfl) (by simp) ?_
                    refine AllReadyH.cons (o := _) rfl (fun K hK => ?_) ?_
                    ·
                      have ck := HW.cell 5
                      have fk := HW.frozen 5
                      simp at ck
                      rw [if_pos (by rfl)]
                      go_simp
                      refine hK.out _ _ (hHeld.setIn (by simp) _ _) (fun hHeld => ?_)
                      clear hK K
                      try simp only [Act.put, sA1, sA2, sA3]
                      replace HW := HW.setCell 5 (.int .u64 (u5))
                      simp only [sA1, sA2, sA3] at HW
                      clear ck fk
                      generalize World.setCell ω5 ⟨W, 5, none⟩ (.int .u64 (u5)) = ω6 at *
                      refine tv (v := ?_) 35 (some 248) rfl (by kernel_rfl) (fun _ _ _ h => h) rfl rfl (fun w hSw => ?_) hHeld ?_; rotate_left; (· (go_simp; try with_reducible rfl)); try simp only [Act.put, sA1, sA2, sA3]
                      refine wpAnyH_ready (rs := [36]) (by kernel_rfl) (by simp) ?_
                      refine AllReadyH.cons (o := _) rfl (fun K hK => ?_) ?_
                      ·
                        have ck := HW.cell 6
                        have fk := HW.frozen 6
                        simp at ck
                        rw [if_pos (by rfl)]
                        go_simp
                        refine hK.out _ _ (hHeld.setIn (by simp) _ _) (fun hHeld => ?_)
                        clear hK K
                        try simp only [Act.put, sA1, sA2, sA3]
                        replace HW := HW.setCell 6 (.int .u64 (u6))
                        simp only [sA1, sA2, sA3] at HW
                        clear ck fk
                        generalize World.setCell ω6 ⟨W, 6, none⟩ (.int .u64 (u6)) = ω7 at *
                        refine tv (v := ?_) 38 (some 250) rfl (by kernel_rfl) (fun _ _ _ h => h) rfl rfl (fun w hSw => ?_) hHeld ?_; rotate_left; (· (go_simp; try with_reducible rfl)); try simp only [Act.put, sA1, sA2, sA3]
                        refine wpAnyH_ready (rs := [39]) (by kernel_rfl) (by simp) ?_
                        refine AllReadyH.cons (o := _) rfl (fun K hK => ?_) ?_
                        ·
                          have ck := HW.cell 7
                          have fk := HW.frozen 7
                          simp at ck
                          rw [if_pos (by rfl)]
                          go_simp
                          refine hK.out _ _ (hHeld.setIn (by simp) _ _) (fun hHeld => ?_)
                          clear hK K
                          try simp only [Act.put, sA1, sA2, sA3]
                          replace HW := HW.setCell 7 (.int .u64 (u7))
                          simp only [sA1, sA2, sA3] at HW
                          clear ck fk
                          generalize World.setCell ω7 ⟨W, 7, none⟩ (.int .u64 (u7)) = ω8 at *
                          refine wpAnyH_done (by kernel_rfl) ?_ _
                          go_wp2_with fail
                          go_end0
                          exact ⟨rfl, HW, CQ.wide.trans1 hHeld⟩
                        exact AllReadyH.nil
                      exact AllReadyH.nil
                    exact AllReadyH.nil
                  exact AllReadyH.nil
                exact AllReadyH.nil
              exact AllReadyH.nil
            exact AllReadyH.nil
          exact AllReadyH.nil
        exact AllReadyH.nil
      exact AllReadyH.nil
    exact AllReadyH.nil
  exact AllReadyH.nil
end Go.Proofs.YtoafcaieifjoiaaGreat

/- (*number).reduce, mulAdd, mul, bytes, the number within a block. -/
namespace Go.Proofs.YtoafcaieifjoiaaGreat
open Go.RowKit N

set_option maxHeartbeats 4000000 in
set_option maxRecDepth 100000 in
theorem reduce_o (z o : Nat) (c : Array Value) (T : TypeId) (ho : o + 4 ≤ c.size) (W : Nat) (n : Int) (hn0 : 0 ≤ n) (hn1 : n < 104748499452676539840422070298483172870932545473378073263465323779076281484949585756264642954428933028828373892081922272294952209468332577706512882860032) (hne : ¬ z = W) (w : World) (hz : Blk w z c T) (hW : WideAt w W n) :
    Calls Tryz.prog 125 #[.pointer (some ⟨z, o, none⟩), .pointer (some ⟨W, 0, none⟩)] w fun e w' => e = .returned (.tuple #[]) ∧ Blk w' z (setL c o (wdL (n % L))) T ∧ Chg w w' [z, W] := by
  obtain ⟨b0, b1, b2, b3, b4⟩ := red_bd n hn0 hn1
  have hv := red_val n
  have HV : Hid (((n % 7237005577332262213973186563042994240829374041602535252466099000494570602496 - n / 7237005577332262213973186563042994240829374041602535252466099000494570602496 * 27742317777372353535851937790883648493 % 7237005577332262213973186563042994240829374041602535252466099000494570602496) % L + n / 7237005577332262213973186563042994240829374041602535252466099000494570602496 * 27742317777372353535851937790883648493 / 7237005577332262213973186563042994240829374041602535252466099000494570602496 * 27742317777372353535851937790883648493) % L = n % L) := hv
  clear hv
  have hzl := hz.lt
  have hWl := hW.lt
  have A0 : An ((w.alloc (.cells #[.int .u64 0, .int .u64 0, .int .u64 0, .int .u64 0] 162)).alloc (.cells #[.int .u64 0, .int .u64 0, .int .u64 0, .int .u64 0] 162)) w.heap.size := (NumAt.new w).an.alloc _
  have A1 : An ((w.alloc (.cells #[.int .u64 0, .int .u64 0, .int .u64 0, .int .u64 0] 162)).alloc (.cells #[.int .u64 0, .int .u64 0, .int .u64 0, .int .u64 0] 162)) (w.heap.size + 1) := by have h := (NumAt.new (w.alloc (.cells #[.int .u64 0, .int .u64 0, .int .u64 0, .int .u64 0] 162))).an; simpa using h
  have CC : Chg w ((w.alloc (.cells #[.int .u64 0, .int .u64 0, .int .u64 0, .int .u64 0] 162)).alloc (.cells #[.int .u64 0, .int .u64 0, .int .u64 0, .int .u64 0] 162)) [z, W] := ((Chg.refl w _).alloc _).alloc _
  replace hz := (hz.alloc (.cells #[.int .u64 0, .int .u64 0, .int .u64 0, .int .u64 0] 162)).alloc (.cells #[.int .u64 0, .int .u64 0, .int .u64 0, .int .u64 0] 162)
  replace hW := (hW.alloc (.cells #[.int .u64 0, .int .u64 0, .int .u64 0, .int .u64 0] 162)).alloc (.cells #[.int .u64 0, .int .u64 0, .int .u64 0, .int .u64 0] 162)
  go_enter Tryz.func125, Tryz.ntmps125
  go_wp2_with fail
  have e1 : ¬ W = w.heap.size := by omega
  have e2 : ¬ W = w.heap.size + 1 := by omega
  have e3 : ¬ z = w.heap.size := by omega
  have e4 : ¬ z = w.heap.size + 1 := by omega
  have e5 : ¬ w.heap.size = w.heap.size + 1 := by omega
  have e6 : ¬ w.heap.size + 1 = w.heap.size := by omega
  refine (fold_any W w.heap.size n hn0 (by omega) e1 _ hW A0).mono ?_
  rintro e v1 ⟨rfl, n1, m1, k1⟩
  replace A1 := A1.chg k1 (by simp; omega)
  replace hz := hz.chg k1 (by simp; omega)
  replace CC := CC.trans k1 (by simp)
  clear hW A0 k1
  go_wp2_with fail
  refine (fold_any W (w.heap.size + 1) _ b0 b1 e2 _ m1 A1).mono ?_
  rintro e v2 ⟨rfl, n2, m2, k2⟩
  replace n1 := n1.chg k2 (by simp; omega)
  replace hz := hz.chg k2 (by simp; omega)
  replace CC := CC.trans k2 (by simp)
  clear m1 A1 k2
  go_wp2_with fail
  refine (sub_o z o c T ho w.heap.size (w.heap.size + 1) _ _ b3 b4 _ hz n1 n2).mono ?_
  rintro e v3 ⟨rfl, n3, k3⟩
  replace m2 := m2.chg (Chg.of k3) (by simp; omega)
  replace CC := CC.trans (Chg.of k3) (by simp)
  clear n1 n2 hz k3
  have HW : Blk v3 W #[.int .u64 (wrd (n / 7237005577332262213973186563042994240829374041602535252466099000494570602496 * 27742317777372353535851937790883648493 / 7237005577332262213973186563042994240829374041602535252466099000494570602496 * 27742317777372353535851937790883648493) 0), .int .u64 (wrd (n / 7237005577332262213973186563042994240829374041602535252466099000494570602496 * 27742317777372353535851937790883648493 / 7237005577332262213973186563042994240829374041602535252466099000494570602496 * 27742317777372353535851937790883648493) 1), .int .u64 (wrd (n / 7237005577332262213973186563042994240829374041602535252466099000494570602496 * 27742317777372353535851937790883648493 / 7237005577332262213973186563042994240829374041602535252466099000494570602496 * 27742317777372353535851937790883648493) 2), .int .u64 (wrd (n / 7237005577332262213973186563042994240829374041602535252466099000494570602496 * 27742317777372353535851937790883648493 / 7237005577332262213973186563042994240829374041602535252466099000494570602496 * 27742317777372353535851937790883648493) 3), .int .u64 (wrd (n / 7237005577332262213973186563042994240829374041602535252466099000494570602496 * 27742317777372353535851937790883648493 / 7237005577332262213973186563042994240829374041602535252466099000494570602496 * 27742317777372353535851937790883648493) 4), .int .u64 (wrd (n / 7237005577332262213973186563042994240829374041602535252466099000494570602496 * 27742317777372353535851937790883648493 / 7237005577332262213973186563042994240829374041602535252466099000494570602496 * 27742317777372353535851937790883648493) 5), .int .u64 (wrd (n / 7237005577332262213973186563042994240829374041602535252466099000494570602496 * 27742317777372353535851937790883648493 / 7237005577332262213973186563042994240829374041602535252466099000494570602496 * 27742317777372353535851937790883648493) 6), .int .u64 (wrd (n / 7237005577332262213973186563042994240829374041602535252466099000494570602496 * 27742317777372353535851937790883648493 / 7237005577332262213973186563042994240829374041602535252466099000494570602496 * 27742317777372353535851937790883648493) 7)] 202 := m2
  clear m2
  have hlt := n3.lt
  have r3 := rl_mod (n % 7237005577332262213973186563042994240829374041602535252466099000494570602496 - n / 7237005577332262213973186563042994240829374041602535252466099000494570602496 * 27742317777372353535851937790883648493 % 7237005577332262213973186563042994240829374041602535252466099000494570602496)
  generalize n / 7237005577332262213973186563042994240829374041602535252466099000494570602496 * 27742317777372353535851937790883648493 / 7237005577332262213973186563042994240829374041602535252466099000494570602496 * 27742317777372353535851937790883648493 = n4 at *
  generalize (n % 7237005577332262213973186563042994240829374041602535252466099000494570602496 - n / 7237005577332262213973186563042994240829374041602535252466099000494570602496 * 27742317777372353535851937790883648493 % 7237005577332262213973186563042994240829374041602535252466099000494570602496) % L = n5 at *
  go_wp2_with fail
  refine wp_region_held_drew (S := fun w' => Chg v3 w' [z]) (by kernel_rfl) ((Chg.refl v3 _).drew) (fun hHeld => ?_)
  refine tv (v := ?_) 0 (some 12) rfl (by kernel_rfl) (fun _ _ _ h => h) rfl rfl (fun w hSw => ?_) hHeld ?_; rotate_left; (· (go_simp; try with_reducible rfl)); try simp only [Act.put, sA1, sA2, sA3]
  refine tv (v := ?_) 1 (some 13) rfl (by kernel_rfl) (fun _ _ _ h => h) rfl rfl (fun w hSw => ?_) hHeld ?_; rotate_left; (· (go_simp; try with_reducible rfl)); try simp only [Act.put, sA1, sA2, sA3]
  refine tv (v := ?_) 2 (some 14) rfl (by kernel_rfl) (fun _ _ _ h => h) rfl rfl (fun w hSw => ?_) hHeld ?_; rotate_left; (· (go_simp; try with_reducible rfl)); try simp only [Act.put, sA1, sA2, sA3]
  refine tv (v := ?_) 3 (some 15) rfl (by kernel_rfl) (fun _ _ _ h => h) rfl rfl (fun w hSw => ?_) hHeld ?_; rotate_left; (· (go_simp; try with_reducible rfl)); try simp only [Act.put, sA1, sA2, sA3]
  refine tv (v := ?_) 4 (some 16) rfl (by kernel_rfl) (fun _ _ _ h => h) rfl rfl (fun w hSw => ?_) hHeld ?_; rotate_left; (· (go_simp; try with_reducible rfl)); try simp only [Act.put, sA1, sA2, sA3]
  refine tv (v := ?_) 5 (some 17) rfl (by kernel_rfl) (fun _ _ _ h => h) rfl rfl (fun w hSw => ?_) hHeld ?_
  rotate_left
  · have cx := (HW.chg hSw (by simp; omega)).cell 0
    (go_simp; try with_reducible rfl)
  try simp only [Act.put, sA1, sA2, sA3]
  refine tv (v := ?_) 6 (some 18) rfl (by kernel_rfl) (fun _ _ _ h => h) rfl rfl (fun w hSw => ?_) hHeld ?_; rotate_left; (· (go_simp; try with_reducible rfl)); try simp only [Act.put, sA1, sA2, sA3]
  refine tv (v := ?_) 7 (some 19) rfl (by kernel_rfl) (fun _ _ _ h => h) rfl rfl (fun w hSw => ?_) hHeld ?_; rotate_left; (· (go_simp; try with_reducible rfl)); try simp only [Act.put, sA1, sA2, sA3]
  refine tv (v := ?_) 8 (some 20) rfl (by kernel_rfl) (fun _ _ _ h => h) rfl rfl (fun w hSw => ?_) hHeld ?_; rotate_left; (· (go_simp; try with_reducible rfl)); try simp only [Act.put, sA1, sA2, sA3]
  refine tv (v := ?_) 9 (some 21) rfl (by kernel_rfl) (fun _ _ _ h => h) rfl rfl (fun w hSw => ?_) hHeld ?_
  rotate_left
  · have cx := (HW.chg hSw (by simp; omega)).cell 1
    (go_simp; try with_reducible rfl)
  try simp only [Act.put, sA1, sA2, sA3]
  refine tv (v := ?_) 10 (some 22) rfl (by kernel_rfl) (fun _ _ _ h => h) rfl rfl (fun w hSw => ?_) hHeld ?_; rotate_left; (· (go_simp; try with_reducible rfl)); try simp only [Act.put, sA1, sA2, sA3]
  refine tv (v := ?_) 11 (some 23) rfl (by kernel_rfl) (fun _ _ _ h => h) rfl rfl (fun w hSw => ?_) hHeld ?_; rotate_left; (· (go_simp; try with_reducible rfl)); try simp only [Act.put, sA1, sA2, sA3]
  refine tv (v := ?_) 12 (some 24) rfl (by kernel_rfl) (fun _ _ _ h => h) rfl rfl (fun w hSw => ?_) hHeld ?_; rotate_left; (· (go_simp; try with_reducible rfl)); try simp only [Act.put, sA1, sA2, sA3]
  refine tv (v := ?_) 13 (some 25) rfl (by kernel_rfl) (fun _ _ _ h => h) rfl rfl (fun w hSw => ?_) hHeld ?_
  rotate_left
  · have cx := (HW.chg hSw (by simp; omega)).cell 2
    (go_simp; try with_reducible rfl)
  try simp only [Act.put, sA1, sA2, sA3]
  refine tv (v := ?_) 14 (some 26) rfl (by kernel_rfl) (fun _ _ _ h => h) rfl rfl (fun w hSw => ?_) hHeld ?_; rotate_left; (· (go_simp; try with_reducible rfl)); try simp only [Act.put, sA1, sA2, sA3]
  refine tv (v := ?_) 15 (some 27) rfl (by kernel_rfl) (fun _ _ _ h => h) rfl rfl (fun w hSw => ?_) hHeld ?_; rotate_left; (· (go_simp; try with_reducible rfl)); try simp only [Act.put, sA1, sA2, sA3]
  refine tv (v := ?_) 16 (some 28) rfl (by kernel_rfl) (fun _ _ _ h => h) rfl rfl (fun w hSw => ?_) hHeld ?_; rotate_left; (· (go_simp; try with_reducible rfl)); try simp only [Act.put, sA1, sA2, sA3]
  refine tv (v := ?_) 17 (some 29) rfl (by kernel_rfl) (fun _ _ _ h => h) rfl rfl (fun w hSw => ?_) hHeld ?_
  rotate_left
  · have cx := (HW.chg hSw (by simp; omega)).cell 3
    (go_simp; try with_reducible rfl)
  try simp only [Act.put, sA1, sA2, sA3]
  refine tv (v := ?_) 18 (some 30) rfl (by kernel_rfl) (fun _ _ _ h => h) rfl rfl (fun w hSw => ?_) hHeld ?_; rotate_left; (· (go_simp; try with_reducible rfl)); try simp only [Act.put, sA1, sA2, sA3]
  refine wpAnyH_ready (rs := [19]) (by kernel_rfl) (by simp) ?_
  refine AllReadyH.cons (o := _) rfl (fun K hK => ?_) ?_
  ·
    rw [if_pos (by rfl)]
    go_simp
    refine hK.out _ _ (hHeld.alloc _) (fun hHeld => ?_)
    clear hK K
    try simp only [Act.put, sA1, sA2, sA3]
    refine wpAnyH_ready (rs := [20]) (by kernel_rfl) (by simp) ?_
    refine AllReadyH.cons (o := _) rfl (fun K hK => ?_) ?_
    ·
      go_simp
      have n6 : NumAt (v3.drew.alloc (.cells (wd4 n4) 162)) v3.heap.size n4 := Blk.new v3.drew _ _
      have n7 : Blk (v3.drew.alloc (.cells (wd4 n4) 162)) z (setL c o (wdL n5)) T := Blk.alloc n3 _
      refine (add_o z o _ T v3.heap.size _ _ r3 b2 _ n7 (Wc.set ho n5) n6).mono ?_
      rintro e v4 ⟨rfl, n8, k4⟩
      rw [setL_setL c o (wdL n5) (wdL ((n5 + n4) % L)) rfl] at n8
      go_wp2_with fail
      refine hK.out _ _ (hHeld.trans1 (Chg.of k4)) (fun hHeld => ?_)
      clear hK K
      try simp only [Act.put, sA1, sA2, sA3]
      refine wpAnyH_done (by kernel_rfl) ?_ _
      go_wp2_with fail
      go_end0
      exact ⟨rfl, by rw [← HV.out]; exact n8, CC.trans hHeld (by simp)⟩
    exact AllReadyH.nil
  exact AllReadyH.nil
set_option maxHeartbeats 4000000 in
set_option maxRecDepth 100000 in
theorem mulAdd_o (z o : Nat) (c : Array Value) (T : TypeId) (y a : Nat) (n m k : Int) (rn : RL n) (rm : RL m) (rk : RL k) (w : World) (hz : Blk w z c T) (hx : Wc c o n) (hy : NumAt w y m) (ha : NumAt w a k) :
    Calls Tryz.prog 97 #[.pointer (some ⟨z, o, none⟩), .pointer (some ⟨z, o, none⟩), .pointer (some ⟨y, 0, none⟩), .pointer (some ⟨a, 0, none⟩)] w fun e w' => e = .returned (.tuple #[]) ∧ Blk w' z (setL c o (wdL ((k + n * m) % L))) T ∧ Chg w w' [z] := by
  have hzl := hz.lt
  obtain ⟨pb0, pb1⟩ := prod_bd k n m rk rn rm
  have hs := wd8_small k rk.1 (by unfold RL at rk; omega)
  have HS : Hid (#[.int .u64 (wrd k 0), .int .u64 (wrd k 1), .int .u64 (wrd k 2), .int .u64 (wrd k 3), .int .u64 0, .int .u64 0, .int .u64 0, .int .u64 0] = wd8 k) := hs
  clear hs
  go_enter Tryz.func97, Tryz.ntmps97
  go_wp2_with fail
  refine wp_region_held_drew (S := fun w' => Chg w w' []) (by kernel_rfl) ((Chg.refl w _).drew) (fun hHeld => ?_)
  refine tv (v := ?_) 0 (some 9) rfl (by kernel_rfl) (fun _ _ _ h => h) rfl rfl (fun w hSw => ?_) hHeld ?_; rotate_left; (· (go_simp; try with_reducible rfl)); try simp only [Act.put, sA1, sA2, sA3]
  refine tv (v := ?_) 1 (some 10) rfl (by kernel_rfl) (fun _ _ _ h => h) rfl rfl (fun w hSw => ?_) hHeld ?_; rotate_left; (· (go_simp; try with_reducible rfl)); try simp only [Act.put, sA1, sA2, sA3]
  refine tv (v := ?_) 2 (some 11) rfl (by kernel_rfl) (fun _ _ _ h => h) rfl rfl (fun w hSw => ?_) hHeld ?_; rotate_left; (· (go_simp; try with_reducible rfl)); try simp only [Act.put, sA1, sA2, sA3]
  refine tv (v := ?_) 3 (some 12) rfl (by kernel_rfl) (fun _ _ _ h => h) rfl rfl (fun w hSw => ?_) hHeld ?_
  rotate_left
  · have cx := (NumAt.chg ha hSw (by simp)).c0
    (go_simp; try with_reducible rfl)
  try simp only [Act.put, sA1, sA2, sA3]
  refine tv (v := ?_) 4 (some 13) rfl (by kernel_rfl) (fun _ _ _ h => h) rfl rfl (fun w hSw => ?_) hHeld ?_; rotate_left; (· (go_simp; try with_reducible rfl)); try simp only [Act.put, sA1, sA2, sA3]
  refine tv (v := ?_) 5 (some 14) rfl (by kernel_rfl) (fun _ _ _ h => h) rfl rfl (fun w hSw => ?_) hHeld ?_; rotate_left; (· (go_simp; try with_reducible rfl)); try simp only [Act.put, sA1, sA2, sA3]
  refine tv (v := ?_) 6 (some 15) rfl (by kernel_rfl) (fun _ _ _ h => h) rfl rfl (fun w hSw => ?_) hHeld ?_; rotate_left; (· (go_simp; try with_reducible rfl)); try simp only [Act.put, sA1, sA2, sA3]
  refine tv (v := ?_) 7 (some 16) rfl (by kernel_rfl) (fun _ _ _ h => h) rfl rfl (fun w hSw => ?_) hHeld ?_
  rotate_left
  · have cx := (NumAt.chg ha hSw (by simp)).c1
    (go_simp; try with_reducible rfl)
  try simp only [Act.put, sA1, sA2, sA3]
  refine tv (v := ?_) 8 (some 17) rfl (by kernel_rfl) (fun _ _ _ h => h) rfl rfl (fun w hSw => ?_) hHeld ?_; rotate_left; (· (go_simp; try with_reducible rfl)); try simp only [Act.put, sA1, sA2, sA3]
  refine tv (v := ?_) 9 (some 18) rfl (by kernel_rfl) (fun _ _ _ h => h) rfl rfl (fun w hSw => ?_) hHeld ?_; rotate_left; (· (go_simp; try with_reducible rfl)); try simp only [Act.put, sA1, sA2, sA3]
  refine tv (v := ?_) 10 (some 19) rfl (by kernel_rfl) (fun _ _ _ h => h) rfl rfl (fun w hSw => ?_) hHeld ?_; rotate_left; (· (go_simp; try with_reducible rfl)); try simp only [Act.put, sA1, sA2, sA3]
  refine tv (v := ?_) 11 (some 20) rfl (by kernel_rfl) (fun _ _ _ h => h) rfl rfl (fun w hSw => ?_) hHeld ?_
  rotate_left
  · have cx := (NumAt.chg ha hSw (by simp)).c2
    (go_simp; try with_reducible rfl)
  try simp only [Act.put, sA1, sA2, sA3]
  refine tv (v := ?_) 12 (some 21) rfl (by kernel_rfl) (fun _ _ _ h => h) rfl rfl (fun w hSw => ?_) hHeld ?_; rotate_left; (· (go_simp; try with_reducible rfl)); try simp only [Act.put, sA1, sA2, sA3]
  refine tv (v := ?_) 13 (some 22) rfl (by kernel_rfl) (fun _ _ _ h => h) rfl rfl (fun w hSw => ?_) hHeld ?_; rotate_left; (· (go_simp; try with_reducible rfl)); try simp only [Act.put, sA1, sA2, sA3]
  refine tv (v := ?_) 14 (some 23) rfl (by kernel_rfl) (fun _ _ _ h => h) rfl rfl (fun w hSw => ?_) hHeld ?_; rotate_left; (· (go_simp; try with_reducible rfl)); try simp only [Act.put, sA1, sA2, sA3]
  refine tv (v := ?_) 15 (some 24) rfl (by kernel_rfl) (fun _ _ _ h => h) rfl rfl (fun w hSw => ?_) hHeld ?_
  rotate_left
  · have cx := (NumAt.chg ha hSw (by simp)).c3
    (go_simp; try with_reducible rfl)
  try simp only [Act.put, sA1, sA2, sA3]
  refine tv (v := ?_) 16 (some 25) rfl (by kernel_rfl) (fun _ _ _ h => h) rfl rfl (fun w hSw => ?_) hHeld ?_; rotate_left; (· (go_simp; try with_reducible rfl)); try simp only [Act.put, sA1, sA2, sA3]
  refine wpAnyH_ready (rs := [17]) (by kernel_rfl) (by simp) ?_
  refine AllReadyH.cons (o := _) rfl (fun K hK => ?_) ?_
  ·
    rw [if_pos (by rfl)]
    go_simp
    refine hK.out _ _ (hHeld.alloc _) (fun hHeld => ?_)
    clear hK K
    try simp only [Act.put, sA1, sA2, sA3]
    refine wpAnyH_ready (rs := [18]) (by kernel_rfl) (by simp) ?_
    refine AllReadyH.cons (o := _) rfl (fun K hK => ?_) ?_
    ·
      rw [if_pos (by rfl)]
      refine wp_store_row 202 _ _ rfl w.heap.size _ rfl rfl 202 _ (Blk.new w #[.int .u64 0, .int .u64 0, .int .u64 0, .int .u64 0, .int .u64 0, .int .u64 0, .int .u64 0, .int .u64 0] 202).drew wideInfo rfl (by simp [Value.oneCell']) ?_
      refine hK.out _ _ (hHeld.setRowNew (Nat.le_refl _) _) (fun hHeld => ?_)
      clear hK K
      try simp only [Act.put, sA1, sA2, sA3]
      refine wpAnyH_done (by kernel_rfl) ?_ _
      have HW : WideAt (((w.alloc (.cells #[.int .u64 0, .int .u64 0, .int .u64 0, .int .u64 0, .int .u64 0, .int .u64 0, .int .u64 0, .int .u64 0] 202)).drew).setRow w.heap.size #[.int .u64 (wrd k 0), .int .u64 (wrd k 1), .int .u64 (wrd k 2), .int .u64 (wrd k 3), .int .u64 0, .int .u64 0, .int .u64 0, .int .u64 0]) w.heap.size k := by
        have h := (Blk.new w #[.int .u64 0, .int .u64 0, .int .u64 0, .int .u64 0, .int .u64 0, .int .u64 0, .int .u64 0, .int .u64 0] 202).drew.setRow #[.int .u64 (wrd k 0), .int .u64 (wrd k 1), .int .u64 (wrd k 2), .int .u64 (wrd k 3), .int .u64 0, .int .u64 0, .int .u64 0, .int .u64 0]
        rw [HS.out] at h
        rw [HS.out]
        exact h
      replace hz := hz.chg hHeld (by simp)
      replace hy := hy.chg hHeld (by simp)
      have CC : Chg w (((w.alloc (.cells #[.int .u64 0, .int .u64 0, .int .u64 0, .int .u64 0, .int .u64 0, .int .u64 0, .int .u64 0, .int .u64 0] 202)).drew).setRow w.heap.size #[.int .u64 (wrd k 0), .int .u64 (wrd k 1), .int .u64 (wrd k 2), .int .u64 (wrd k 3), .int .u64 0, .int .u64 0, .int .u64 0, .int .u64 0]) [z] := hHeld.wide
      clear hHeld ha HS
      generalize ((w.alloc (.cells #[.int .u64 0, .int .u64 0, .int .u64 0, .int .u64 0, .int .u64 0, .int .u64 0, .int .u64 0, .int .u64 0] 202)).drew).setRow w.heap.size #[.int .u64 (wrd k 0), .int .u64 (wrd k 1), .int .u64 (wrd k 2), .int .u64 (wrd k 3), .int .u64 0, .int .u64 0, .int .u64 0, .int .u64 0] = v0 at *
      go_wp2_with fail
      refine (addProduct_o w.heap.size z o c T y k n m rk.1 (by unfold RL at rk; omega) rn rm _ HW hz hx hy).mono ?_
      rintro e v1 ⟨rfl, W1, k1⟩
      replace hz := hz.chg k1 (by simp; omega)
      replace CC := CC.new k1 (by omega)
      clear HW hy k1
      go_wp2_with fail
      refine (reduce_o z o c T hx.le w.heap.size _ pb0 pb1 (by omega) _ hz W1).mono ?_
      rintro e v2 ⟨rfl, n2, k2⟩
      replace CC := CC.trans k2 (by simp)
      go_wp2_with fail
      go_end0
      exact ⟨rfl, n2, CC⟩
    exact AllReadyH.nil
  exact AllReadyH.nil
set_option maxHeartbeats 4000000 in
set_option maxRecDepth 100000 in
theorem mul_o (z o : Nat) (c : Array Value) (T : TypeId) (y : Nat) (n m : Int) (rn : RL n) (rm : RL m) (w : World) (hz : Blk w z c T) (hx : Wc c o n) (hy : NumAt w y m) :
    Calls Tryz.prog 102 #[.pointer (some ⟨z, o, none⟩), .pointer (some ⟨z, o, none⟩), .pointer (some ⟨y, 0, none⟩)] w fun e w' => e = .returned (.tuple #[]) ∧ Blk w' z (setL c o (wdL (n * m % L))) T ∧ Chg w w' [z] := by
  have hn := NumAt.new w
  go_enter Tryz.func102, Tryz.ntmps102
  go_wp2_with fail
  refine (mulAdd_o z o c T y w.heap.size n m 0 rn rm ⟨by omega, by omega⟩ _ (hz.alloc _) hx (hy.alloc _) hn).mono ?_
  rintro e v1 ⟨rfl, n1, k1⟩
  go_wp2_with fail
  go_end0
  rw [Int.zero_add] at n1
  exact ⟨rfl, n1, ((Chg.refl w [z]).alloc _).trans1 k1⟩
set_option maxHeartbeats 4000000 in
set_option maxRecDepth 100000 in
theorem bytes_o (z o : Nat) (c : Array Value) (T : TypeId) (n : Int) (rn : R256 n) (w : World) (hz : Blk w z c T) (hc : Wc c o n) :
    Calls Tryz.prog 98 #[.pointer (some ⟨z, o, none⟩)] w fun e w' => e = .returned (fe n) ∧ Chg w w' [] := by
  have hzlt := hz.lt
  have es := wrd_sum n rn.1 rn.2
  have HZ : Blk w z c T := hz
  have HLX : Hid (c[o]? = some (.int .u64 (wrd n 0)) ∧ c[o + 1]? = some (.int .u64 (wrd n 1)) ∧ c[o + 2]? = some (.int .u64 (wrd n 2)) ∧ c[o + 3]? = some (.int .u64 (wrd n 3))) := hc
  clear hc
  have q0 := wrd_wo n 0; have q1 := wrd_wo n 1; have q2 := wrd_wo n 2; have q3 := wrd_wo n 3
  generalize wrd n 0 = W0 at *; generalize wrd n 1 = W1 at *; generalize wrd n 2 = W2 at *; generalize wrd n 3 = W3 at *
  clear hz
  have HS : Hid (W0 + W1 * 18446744073709551616 + W2 * 340282366920938463463374607431768211456 + W3 * 6277101735386680763835789423207666416102355444464034512896 = n) := es
  clear es
  have HA : Blk (w.alloc (.cells z32 24)) w.heap.size z32 24 := Blk.new w z32 24
  have CC : Chg w (w.alloc (.cells z32 24)) [] := (Chg.refl w []).alloc _
  replace HZ := HZ.alloc (.cells z32 24)
  go_enter Tryz.func98, Tryz.ntmps98
  go_wp2_with fail
  change Code.wp _ _ _ _ (w.alloc (.cells z32 24))
  have hne : ¬ z = w.heap.size := by omega
  have hle : w.heap.size ≤ w.heap.size := Nat.le_refl _
  generalize hv : w.alloc (.cells z32 24) = ψ0 at *
  clear hv
  generalize hg : w.heap.size = g at HA hne hle ⊢
  have HG : Hid (w.heap.size = g) := hg
  clear hg
  refine wp_region_held_drew (S := fun w' => Chg ψ0 w' [g]) (by kernel_rfl) ((Chg.refl ψ0 _).drew) (fun hHeld => ?_)
  refine tv (v := (.slice (some ⟨g, 0, none⟩) 8 32)) 0 (some 3) rfl (by kernel_rfl) (fun _ _ _ h => h) rfl rfl (fun w hSw => ?_) hHeld ?_
  · (go_simp; try with_reducible rfl)
  try simp only [Act.put, sA1, sA2, sA3]
  refine tv (v := ?_) 1 (some 4) rfl (by kernel_rfl) (fun _ _ _ h => h) rfl rfl (fun w hSw => ?_) hHeld ?_; rotate_left; (· (go_simp; try with_reducible rfl)); try simp only [Act.put, sA1, sA2, sA3]
  refine tv (v := ?_) 2 (some 5) rfl (by kernel_rfl) (fun _ _ _ h => h) rfl rfl (fun w hSw => ?_) hHeld ?_; rotate_left; (· (go_simp; try with_reducible rfl)); try simp only [Act.put, sA1, sA2, sA3]
  refine tv (v := ?_) 3 (some 6) rfl (by kernel_rfl) (fun _ _ _ h => h) rfl rfl (fun w hSw => ?_) hHeld ?_; rotate_left; (· (go_simp; try with_reducible rfl)); try simp only [Act.put, sA1, sA2, sA3]
  refine tv (v := ?_) 4 (some 7) rfl (by kernel_rfl) (fun _ _ _ h => h) rfl rfl (fun w hSw => ?_) hHeld ?_
  rotate_left
  · have cx := ((HZ.chg hSw (by simpa using hne)).cell (o)).trans HLX.out.1
    (go_simp; try with_reducible rfl)
  try simp only [Act.put, sA1, sA2, sA3]
  refine wpAnyH_ready (rs := [5]) (by kernel_rfl) (by simp) ?_
  refine AllReadyH.cons (o := _) rfl (fun K hK => ?_) ?_
  ·
    go_simp
    refine (putWord_blk g 0 32 W0 q0.1 q0.2 _ 24 _ HA.drew (by simp [z32])).mono ?_
    rintro e ψ1 ⟨rfl, HA', kg⟩
    have kc := Chg.of kg
    clear kg HA
    have HA := HA'
    clear HA'
    go_wp2_with fail
    refine hK.out _ _ (hHeld.trans1 kc) (fun hHeld => ?_)
    clear hK K
    try simp only [Act.put, sA1, sA2, sA3]
    refine wpAnyH_done (by kernel_rfl) ?_ _
    replace HZ := HZ.chg hHeld (by simpa using hne)
    replace CC := CC.new hHeld (Nat.le_of_eq HG.out)
    clear hHeld kc
    go_wp2_with fail
    refine wp_region_held_drew (S := fun w' => Chg ψ1 w' [g]) (by kernel_rfl) ((Chg.refl ψ1 _).drew) (fun hHeld => ?_)
    refine tv (v := (.slice (some ⟨g, 8, none⟩) 8 24)) 0 (some 9) rfl (by kernel_rfl) (fun _ _ _ h => h) rfl rfl (fun w hSw => ?_) hHeld ?_
    · (go_simp; try with_reducible rfl)
    try simp only [Act.put, sA1, sA2, sA3]
    refine tv (v := ?_) 1 (some 10) rfl (by kernel_rfl) (fun _ _ _ h => h) rfl rfl (fun w hSw => ?_) hHeld ?_; rotate_left; (· (go_simp; try with_reducible rfl)); try simp only [Act.put, sA1, sA2, sA3]
    refine tv (v := ?_) 2 (some 11) rfl (by kernel_rfl) (fun _ _ _ h => h) rfl rfl (fun w hSw => ?_) hHeld ?_; rotate_left; (· (go_simp; try with_reducible rfl)); try simp only [Act.put, sA1, sA2, sA3]
    refine tv (v := ?_) 3 (some 12) rfl (by kernel_rfl) (fun _ _ _ h => h) rfl rfl (fun w hSw => ?_) hHeld ?_; rotate_left; (· (go_simp; try with_reducible rfl)); try simp only [Act.put, sA1, sA2, sA3]
    refine tv (v := ?_) 4 (some 13) rfl (by kernel_rfl) (fun _ _ _ h => h) rfl rfl (fun w hSw => ?_) hHeld ?_
    rotate_left
    · have cx := ((HZ.chg hSw (by simpa using hne)).cell (o + 1)).trans HLX.out.2.1
      (go_simp; try with_reducible rfl)
    try simp only [Act.put, sA1, sA2, sA3]
    refine wpAnyH_ready (rs := [5]) (by kernel_rfl) (by simp) ?_
    refine AllReadyH.cons (o := _) rfl (fun K hK => ?_) ?_
    ·
      go_simp
      refine (putWord_blk g 8 24 W1 q1.1 q1.2 _ 24 _ HA.drew (by simp [z32])).mono ?_
      rintro e ψ2 ⟨rfl, HA', kg⟩
      have kc := Chg.of kg
      clear kg HA
      have HA := HA'
      clear HA'
      go_wp2_with fail
      refine hK.out _ _ (hHeld.trans1 kc) (fun hHeld => ?_)
      clear hK K
      try simp only [Act.put, sA1, sA2, sA3]
      refine wpAnyH_done (by kernel_rfl) ?_ _
      replace HZ := HZ.chg hHeld (by simpa using hne)
      replace CC := CC.new hHeld (Nat.le_of_eq HG.out)
      clear hHeld kc
      go_wp2_with fail
      refine wp_region_held_drew (S := fun w' => Chg ψ2 w' [g]) (by kernel_rfl) ((Chg.refl ψ2 _).drew) (fun hHeld => ?_)
      refine tv (v := (.slice (some ⟨g, 16, none⟩) 8 16)) 0 (some 15) rfl (by kernel_rfl) (fun _ _ _ h => h) rfl rfl (fun w hSw => ?_) hHeld ?_
      · (go_simp; try with_reducible rfl)
      try simp only [Act.put, sA1, sA2, sA3]
      refine tv (v := ?_) 1 (some 16) rfl (by kernel_rfl) (fun _ _ _ h => h) rfl rfl (fun w hSw => ?_) hHeld ?_; rotate_left; (· (go_simp; try with_reducible rfl)); try simp only [Act.put, sA1, sA2, sA3]
      refine tv (v := ?_) 2 (some 17) rfl (by kernel_rfl) (fun _ _ _ h => h) rfl rfl (fun w hSw => ?_) hHeld ?_; rotate_left; (· (go_simp; try with_reducible rfl)); try simp only [Act.put, sA1, sA2, sA3]
      refine tv (v := ?_) 3 (some 18) rfl (by kernel_rfl) (fun _ _ _ h => h) rfl rfl (fun w hSw => ?_) hHeld ?_; rotate_left; (· (go_simp; try with_reducible rfl)); try simp only [Act.put, sA1, sA2, sA3]
      refine tv (v := ?_) 4 (some 19) rfl (by kernel_rfl) (fun _ _ _ h => h) rfl rfl (fun w hSw => ?_) hHeld ?_
      rotate_left
      · have cx := ((HZ.chg hSw (by simpa using hne)).cell (o + 2)).trans HLX.out.2.2.1
        (go_simp; try with_reducible rfl)
      try simp only [Act.put, sA1, sA2, sA3]
      refine wpAnyH_ready (rs := [5]) (by kernel_rfl) (by simp) ?_
      refine AllReadyH.cons (o := _) rfl (fun K hK => ?_) ?_
      ·
        go_simp
        refine (putWord_blk g 16 16 W2 q2.1 q2.2 _ 24 _ HA.drew (by simp [z32])).mono ?_
        rintro e ψ3 ⟨rfl, HA', kg⟩
        have kc := Chg.of kg
        clear kg HA
        have HA := HA'
        clear HA'
        go_wp2_with fail
        refine hK.out _ _ (hHeld.trans1 kc) (fun hHeld => ?_)
        clear hK K
        try simp only [Act.put, sA1, sA2, sA3]
        refine wpAnyH_done (by kernel_rfl) ?_ _
        replace HZ := HZ.chg hHeld (by simpa using hne)
        replace CC := CC.new hHeld (Nat.le_of_eq HG.out)
        clear hHeld kc
        go_wp2_with fail
        refine wp_region_held_drew (S := fun w' => Chg ψ3 w' [g]) (by kernel_rfl) ((Chg.refl ψ3 _).drew) (fun hHeld => ?_)
        refine tv (v := (.slice (some ⟨g, 24, none⟩) 8 8)) 0 (some 21) rfl (by kernel_rfl) (fun _ _ _ h => h) rfl rfl (fun w hSw => ?_) hHeld ?_
        · (go_simp; try with_reducible rfl)
        try simp only [Act.put, sA1, sA2, sA3]
        refine tv (v := ?_) 1 (some 22) rfl (by kernel_rfl) (fun _ _ _ h => h) rfl rfl (fun w hSw => ?_) hHeld ?_; rotate_left; (· (go_simp; try with_reducible rfl)); try simp only [Act.put, sA1, sA2, sA3]
        refine tv (v := ?_) 2 (some 23) rfl (by kernel_rfl) (fun _ _ _ h => h) rfl rfl (fun w hSw => ?_) hHeld ?_; rotate_left; (· (go_simp; try with_reducible rfl)); try simp only [Act.put, sA1, sA2, sA3]
        refine tv (v := ?_) 3 (some 24) rfl (by kernel_rfl) (fun _ _ _ h => h) rfl rfl (fun w hSw => ?_) hHeld ?_; rotate_left; (· (go_simp; try with_reducible rfl)); try simp only [Act.put, sA1, sA2, sA3]
        refine tv (v := ?_) 4 (some 25) rfl (by kernel_rfl) (fun _ _ _ h => h) rfl rfl (fun w hSw => ?_) hHeld ?_
        rotate_left
        · have cx := ((HZ.chg hSw (by simpa using hne)).cell (o + 3)).trans HLX.out.2.2.2
          (go_simp; try with_reducible rfl)
        try simp only [Act.put, sA1, sA2, sA3]
        refine wpAnyH_ready (rs := [5]) (by kernel_rfl) (by simp) ?_
        refine AllReadyH.cons (o := _) rfl (fun K hK => ?_) ?_
        ·
          go_simp
          refine (putWord_blk g 24 8 W3 q3.1 q3.2 _ 24 _ HA.drew (by simp [z32])).mono ?_
          rintro e ψ4 ⟨rfl, HA', kg⟩
          have kc := Chg.of kg
          clear kg HA
          have HA := HA'
          clear HA'
          go_wp2_with fail
          refine hK.out _ _ (hHeld.trans1 kc) (fun hHeld => ?_)
          clear hK K
          try simp only [Act.put, sA1, sA2, sA3]
          refine wpAnyH_done (by kernel_rfl) ?_ _
          replace HZ := HZ.chg hHeld (by simpa using hne)
          replace CC := CC.new hHeld (Nat.le_of_eq HG.out)
          clear hHeld kc
          have HF : Blk ψ4 g (feC n) 24 := by
            refine Blk.to HA ?_
            rw [← HS.out, ← feC_of W0 W1 W2 W3 q0 q1 q2 q3]
            simp [z32]
          clear HA
          go_wp2_with (first | (refine wpList_load_row rfl 24 _ rfl g rfl 24 _ (0, 0) _ HF Tryz.underlying24 rfl feInfo ?_) | (refine wpList_store_row rfl 24 _ _ rfl g _ rfl rfl 24 _ HF feInfo rfl (feC_one _) ?_))
          refine bodyPost_ret (results_cell_row Tryz.results98 _ _ g 24 (feC n) (0, 0) _ rfl (Blk.setRow HF _) Tryz.underlying24 rfl feInfo) rfl ⟨rfl, ?_⟩
          exact CC.setRowNew (Nat.le_of_eq HG.out) _
        exact AllReadyH.nil
      exact AllReadyH.nil
    exact AllReadyH.nil
  exact AllReadyH.nil
end Go.Proofs.YtoafcaieifjoiaaGreat
