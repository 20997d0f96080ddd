/- (*number).setAbove, add, sub, where the number lies within a block.; (*wide).addProduct, x within a block.; (*number).reduce, mulAdd, mul, bytes, the number within a block.; Inverses modulo the order, running products.; scalar.InvertAll.; rimeref02.Less of 2, rimeref02.Invert.; rimeref02.InvertAll.; A Given that has nothing; the copy that is handed in.; ScalarInverts: the walk. -/
import Derived.Test.YtcdgkhejbdlapaaAddSub
import Derived.Test.YtcdgkhejbdlapaaRws
import Derived.Test.YtcdgkhejbdlapaaProd
import Derived.Test.YtcdgkhejbdlapaaRed
import Derived.Test.YtcdgkhejbdlapaaBytes
import Derived.Test.YtcdgkhejbdlapaaFieldOps
import Derived.Test.YtcdgkhejbdlapaaLst2
import Derived.Test.YtcdgkhejbdlapaaRowA
import Derived.OwnWalk
import Derived.Test.YtcdgkhejbdlapaaPowW
import Derived.Test.YtcdgkhejbdlapaaAddsWalk
import Derived.Test.YtcdgkhejbdlapaaGvSc
import Derived.Great.BuildSlice
import Derived.Test.YtcdgkhejbdlapaaGvI
import Derived.Test.YtcdgkhejbdlapaaWorks
import Derived.Test.YtcdgkhejbdlapaaSamS
set_option linter.unusedVariables false
set_option linter.unusedSimpArgs false
set_option linter.unnecessarySimpa false
namespace Go.Proofs.Ytcdgkhejbdlapaa
open Go.RowKit N

/-- The four words of n. -/
def wdL (n : Int) : List Value := [.int .u64 (wrd n 0), .int .u64 (wrd n 1), .int .u64 (wrd n 2), .int .u64 (wrd n 3)]
theorem wdL_ok (n : Int) : (wdL n).length = 4 ∧ ∀ v ∈ wdL n, v.oneCell' = true := ⟨rfl, by simp [wdL, Value.oneCell']⟩
/-- The words of n at place o of these cells. -/
def Wc (c : Array Value) (o : Nat) (n : Int) : Prop := c[o]? = some (.int .u64 (wrd n 0)) ∧ c[o + 1]? = some (.int .u64 (wrd n 1)) ∧ c[o + 2]? = some (.int .u64 (wrd n 2)) ∧ c[o + 3]? = some (.int .u64 (wrd n 3))
theorem Wc.set {c : Array Value} {o : Nat} (ho : o + 4 ≤ c.size) (n : Int) : Wc (setL c o (wdL n)) o n := by
  refine ⟨?_, ?_, ?_, ?_⟩ <;> rw [setL_get, if_pos (by simp [wdL]; omega)]
  · rw [Nat.sub_self]; rfl
  · rw [show o + 1 - o = 1 from by omega]; rfl
  · rw [show o + 2 - o = 2 from by omega]; rfl
  · rw [show o + 3 - o = 3 from by omega]; rfl
theorem Wc.le {c : Array Value} {o : Nat} {n : Int} (h : Wc c o n) : o + 4 ≤ c.size := by
  have := (Array.getElem?_eq_some_iff.1 h.2.2.2).1
  omega
theorem setL_setL (c : Array Value) (o : Nat) (x y : List Value) (h : x.length = y.length) : setL (setL c o x) o y = setL c o y := by
  apply Array.ext_getElem?
  intro k
  rw [setL_get, setL_get, setL_get, setL_size, h]
  split <;> rfl
theorem Wc.row {m : Nat} {F : Nat → List Value} (hF : Rok 4 m F) {i : Nat} (hi : i < m) {n : Int} (h : F i = wdL n) : Wc (rL 4 m F).toArray (i * 4) n := by
  have q : ∀ j, j < 4 → (rL 4 m F).toArray[i * 4 + j]? = (wdL n)[j]? := fun j hj => by rw [List.getElem?_toArray, rL_get hF hi hj, h]
  exact ⟨q 0 (by decide), q 1 (by decide), q 2 (by decide), q 3 (by decide)⟩


set_option maxHeartbeats 1000000 in
set_option maxRecDepth 100000 in
theorem setAbove_o (z o : Nat) (c : Array Value) (T : TypeId) (ho : o + 4 ≤ c.size) (w0 w1 w2 w3 b v : Int) (h0 : Wo w0) (h1 : Wo w1) (h2 : Wo w2) (h3 : Wo w3) (hb : Bi b)
    (hv : w0 + w1 * 18446744073709551616 + w2 * 340282366920938463463374607431768211456 + w3 * 6277101735386680763835789423207666416102355444464034512896 = v + b * 115792089237316195423570985008687907853269984665640564039457584007913129639936)
    (hr0 : 0 ≤ v + b * 7237005577332262213973186563042994240857116359379907606001950938285454250989) (hr1 : v + b * 7237005577332262213973186563042994240857116359379907606001950938285454250989 < 115792089237316195423570985008687907853269984665640564039457584007913129639936)
    (w : World) (hz : Blk w z c T) :
    Calls Try.prog 105 #[.pointer (some ⟨z, o, none⟩), .int .u64 w0, .int .u64 w1, .int .u64 w2, .int .u64 w3, .int .u64 b] w fun e w' => e = .returned (.tuple #[]) ∧ Blk w' z (setL c o (wdL (v + b * 7237005577332262213973186563042994240857116359379907606001950938285454250989))) T ∧ w.grownBy w' (some z) := by
  obtain ⟨x0, k0⟩ : ∃ x, w.cell? ⟨z, o, none⟩ = some x := ⟨_, (hz.cell (o)).trans (Array.getElem?_eq_getElem (by omega))⟩
  obtain ⟨x1, k1⟩ : ∃ x, w.cell? ⟨z, o + 1, none⟩ = some x := ⟨_, (hz.cell (o + 1)).trans (Array.getElem?_eq_getElem (by omega))⟩
  obtain ⟨x2, k2⟩ : ∃ x, w.cell? ⟨z, o + 2, none⟩ = some x := ⟨_, (hz.cell (o + 2)).trans (Array.getElem?_eq_getElem (by omega))⟩
  obtain ⟨x3, k3⟩ : ∃ x, w.cell? ⟨z, o + 3, none⟩ = some x := ⟨_, (hz.cell (o + 3)).trans (Array.getElem?_eq_getElem (by omega))⟩
  have f0 := hz.frozen o; have f1 := hz.frozen (o + 1); have f2 := hz.frozen (o + 2); have f3 := hz.frozen (o + 3)
  obtain ⟨m, hm, m0, m1, m3⟩ : ∃ m, IntKind.u64.wrap (-b) = m ∧ bits .and .u64 6346243789798364141 m = 6346243789798364141 * b ∧ bits .and .u64 1503914060200516822 m = 1503914060200516822 * b ∧ bits .and .u64 1152921504606846976 m = 1152921504606846976 * b := by
    have : b = 0 ∨ b = 1 := by unfold Bi at hb; omega
    rcases this with rfl | rfl
    · exact ⟨0, by decide, by decide, by decide, by decide⟩
    · exact ⟨18446744073709551615, by decide, by decide, by decide, by decide⟩
  have g0 : Wo (6346243789798364141 * b) := by unfold Bi at hb; unfold Wo; omega
  have g1 : Wo (1503914060200516822 * b) := by unfold Bi at hb; unfold Wo; omega
  have g3 : Wo (1152921504606846976 * b) := by unfold Bi at hb; unfold Wo; omega
  obtain ⟨z0, c0, e0, hz0, hc0⟩ := addx w0 (6346243789798364141 * b) 0 h0 g0 bi0
  obtain ⟨z1, c1, e1, hz1, hc1⟩ := addx w1 (1503914060200516822 * b) c0 h1 g1 hc0
  obtain ⟨z2, c2, e2, hz2, hc2⟩ := addx w2 0 c1 h2 wo0 hc1
  obtain ⟨z3, c3, e3, hz3, hc3⟩ := addx w3 (1152921504606846976 * b) c2 h3 g3 hc2
  have V := above_val v b w0 w1 w2 w3 z0 z1 z2 z3 c0 c1 c2 c3 hv hb hz0 hz1 hz2 hz3 hc3 e0 e1 e2 e3 hr0 hr1
  obtain ⟨q0, q1, q2, q3⟩ := wrd_is _ z0 z1 z2 z3 hz0 hz1 hz2 hz3 V
  have A0 := add64 _ _ _ z0 c0 h0 g0 bi0 e0 hz0
  have A1 := add64 _ _ _ z1 c1 h1 g1 hc0 e1 hz1
  have A2 := add64 _ _ _ z2 c2 h2 wo0 hc1 e2 hz2
  have A3 := add64 _ _ _ z3 c3 h3 g3 hc2 e3 hz3
  unfold wdL
  rw [← q0, ← q1, ← q2, ← q3]
  clear q0 q1 q2 q3 e0 e1 e2 e3 V hv
  generalize 6346243789798364141 * b = b0 at *
  generalize 1503914060200516822 * b = b1 at *
  generalize 1152921504606846976 * b = b3 at *
  go_enter Try.func105, Try.ntmps105
  go_wp2_with fail
  go_region
  go_wp2_with fail
  go_region
  go_wp2_with fail
  go_region
  go_wp2_with fail
  go_region
  go_wp2_with fail
  go_end0
  refine ⟨rfl, ?_, ?_⟩
  · exact (((hz.setCell o _).setCell (o + 1) _).setCell (o + 2) _).setCell (o + 3) _
  · (repeat (first | with_reducible exact gb_refl _ _ | with_reducible assumption | with_reducible apply gb_drew | with_reducible apply gb_drewN | with_reducible apply gb_set | with_reducible apply gb_alloc))

set_option maxHeartbeats 1000000 in
set_option maxRecDepth 100000 in
theorem sub_o (z o : Nat) (c : Array Value) (T : TypeId) (ho : o + 4 ≤ c.size) (x y : Nat) (n m : Int) (rn : RL n) (rm : RL m) (w : World) (hz : Blk w z c T) (hx : NumAt w x n) (hy : NumAt w y m) :
    Calls Try.prog 80 #[.pointer (some ⟨z, o, none⟩), .pointer (some ⟨x, 0, none⟩), .pointer (some ⟨y, 0, none⟩)] w fun e w' => e = .returned (.tuple #[]) ∧ Blk w' z (setL c o (wdL ((n - m) % L))) T ∧ w.grownBy w' (some z) := by
  have kx0 := hx.c0; have kx1 := hx.c1; have kx2 := hx.c2; have kx3 := hx.c3
  have ky0 := hy.c0; have ky1 := hy.c1; have ky2 := hy.c2; have ky3 := hy.c3
  have ex := wrd_sum n rn.1 (by unfold RL at rn; omega)
  have ey := wrd_sum m rm.1 (by unfold RL at rm; omega)
  have px0 := wrd_wo n 0; have px1 := wrd_wo n 1; have px2 := wrd_wo n 2; have px3 := wrd_wo n 3
  have py0 := wrd_wo m 0; have py1 := wrd_wo m 1; have py2 := wrd_wo m 2; have py3 := wrd_wo m 3
  generalize wrd n 0 = x0 at *; generalize wrd n 1 = x1 at *; generalize wrd n 2 = x2 at *; generalize wrd n 3 = x3 at *
  generalize wrd m 0 = y0 at *; generalize wrd m 1 = y1 at *; generalize wrd m 2 = y2 at *; generalize wrd m 3 = y3 at *
  obtain ⟨t0, d0, b0, ht0, hd0⟩ := subx x0 y0 0 px0 py0 bi0
  obtain ⟨t1, d1, b1, ht1, hd1⟩ := subx x1 y1 d0 px1 py1 hd0
  obtain ⟨t2, d2, b2, ht2, hd2⟩ := subx x2 y2 d1 px2 py2 hd1
  obtain ⟨t3, d3, b3, ht3, hd3⟩ := subx x3 y3 d2 px3 py3 hd2
  have V := sub_val n m x0 x1 x2 x3 y0 y1 y2 y3 t0 t1 t2 t3 d0 d1 d2 d3 rn rm ex ey b0 b1 b2 b3 ht0 ht1 ht2 ht3 hd3
  have HV : Hid ((t0 + t1 * 18446744073709551616 + t2 * 340282366920938463463374607431768211456 + t3 * 6277101735386680763835789423207666416102355444464034512896 = (n - m) + d3 * 115792089237316195423570985008687907853269984665640564039457584007913129639936) ∧ ((n - m) + d3 * 7237005577332262213973186563042994240857116359379907606001950938285454250989 = (n - m) % L)) := V
  have B0 := sub64 _ _ _ t0 d0 px0 py0 bi0 b0 ht0 hd0
  have B1 := sub64 _ _ _ t1 d1 px1 py1 hd0 b1 ht1 hd1
  have B2 := sub64 _ _ _ t2 d2 px2 py2 hd1 b2 ht2 hd2
  have B3 := sub64 _ _ _ t3 d3 px3 py3 hd2 b3 ht3 hd3
  clear V b0 b1 b2 b3 ex ey
  go_enter Try.func80, Try.ntmps80
  go_wp2_with fail
  go_region
  go_wp2_with fail
  go_region
  go_wp2_with fail
  go_region
  go_wp2_with fail
  go_region
  go_wp2_with fail
  have R := rl_mod (n - m)
  refine (setAbove_o z o c T ho t0 t1 t2 t3 d3 (n - m) ht0 ht1 ht2 ht3 hd3 HV.out.1 ?_ ?_ _ ?_).mono ?_
  · rw [HV.out.2]; exact R.1
  · rw [HV.out.2]; unfold RL at R; omega
  · exact hz
  rintro e w' ⟨rfl, hn, hg⟩
  rw [HV.out.2] at hn
  go_wp2_with fail
  go_end0
  exact ⟨rfl, hn, ⟨hg.os, hg.tape, hg.output, hg.size, hg.block⟩⟩
set_option maxHeartbeats 1000000 in
set_option maxRecDepth 100000 in
theorem add_o (z o : Nat) (c : Array Value) (T : TypeId) (y : Nat) (n m : Int) (rn : RL n) (rm : RL m) (w : World) (hz : Blk w z c T) (hc : Wc c o n) (hy : NumAt w y m) :
    Calls Try.prog 79 #[.pointer (some ⟨z, o, none⟩), .pointer (some ⟨z, o, none⟩), .pointer (some ⟨y, 0, none⟩)] w fun e w' => e = .returned (.tuple #[]) ∧ Blk w' z (setL c o (wdL ((n + m) % L))) T ∧ w.grownBy w' (some z) := by
  have ho := hc.le
  have kx0 := (hz.cell o).trans hc.1; have kx1 := (hz.cell (o + 1)).trans hc.2.1; have kx2 := (hz.cell (o + 2)).trans hc.2.2.1; have kx3 := (hz.cell (o + 3)).trans hc.2.2.2
  clear hc
  have ky0 := hy.c0; have ky1 := hy.c1; have ky2 := hy.c2; have ky3 := hy.c3
  have ex := wrd_sum n rn.1 (by unfold RL at rn; omega)
  have ey := wrd_sum m rm.1 (by unfold RL at rm; omega)
  have px0 := wrd_wo n 0; have px1 := wrd_wo n 1; have px2 := wrd_wo n 2; have px3 := wrd_wo n 3
  have py0 := wrd_wo m 0; have py1 := wrd_wo m 1; have py2 := wrd_wo m 2; have py3 := wrd_wo m 3
  generalize wrd n 0 = x0 at *; generalize wrd n 1 = x1 at *; generalize wrd n 2 = x2 at *; generalize wrd n 3 = x3 at *
  generalize wrd m 0 = y0 at *; generalize wrd m 1 = y1 at *; generalize wrd m 2 = y2 at *; generalize wrd m 3 = y3 at *
  have o0 : Wo 6346243789798364141 := by unfold Wo; omega
  have o1 : Wo 1503914060200516822 := by unfold Wo; omega
  have o3 : Wo 1152921504606846976 := by unfold Wo; omega
  obtain ⟨s0, c0, a0, hs0, hc0⟩ := addx x0 y0 0 px0 py0 bi0
  obtain ⟨s1, c1, a1, hs1, hc1⟩ := addx x1 y1 c0 px1 py1 hc0
  obtain ⟨s2, c2, a2, hs2, hc2⟩ := addx x2 y2 c1 px2 py2 hc1
  obtain ⟨s3, c3, a3, hs3, hc3⟩ := addx x3 y3 c2 px3 py3 hc2
  obtain ⟨t0, d0, b0, ht0, hd0⟩ := subx s0 6346243789798364141 0 hs0 o0 bi0
  obtain ⟨t1, d1, b1, ht1, hd1⟩ := subx s1 1503914060200516822 d0 hs1 o1 hd0
  obtain ⟨t2, d2, b2, ht2, hd2⟩ := subx s2 0 d1 hs2 wo0 hd1
  obtain ⟨t3, d3, b3, ht3, hd3⟩ := subx s3 1152921504606846976 d2 hs3 o3 hd2
  have V := add_val n m x0 x1 x2 x3 y0 y1 y2 y3 s0 s1 s2 s3 c0 c1 c2 c3 t0 t1 t2 t3 d0 d1 d2 d3 rn rm ex ey a0 a1 a2 a3 b0 b1 b2 b3 hs0 hs1 hs2 hs3 ht0 ht1 ht2 ht3 hc3 hd3
  have HV : Hid ((t0 + t1 * 18446744073709551616 + t2 * 340282366920938463463374607431768211456 + t3 * 6277101735386680763835789423207666416102355444464034512896 = (n + m - 7237005577332262213973186563042994240857116359379907606001950938285454250989) + d3 * 115792089237316195423570985008687907853269984665640564039457584007913129639936) ∧ ((n + m - 7237005577332262213973186563042994240857116359379907606001950938285454250989) + d3 * 7237005577332262213973186563042994240857116359379907606001950938285454250989 = (n + m) % L)) := V
  have A0 := add64 _ _ _ s0 c0 px0 py0 bi0 a0 hs0
  have A1 := add64 _ _ _ s1 c1 px1 py1 hc0 a1 hs1
  have A2 := add64 _ _ _ s2 c2 px2 py2 hc1 a2 hs2
  have A3 := add64 _ _ _ s3 c3 px3 py3 hc2 a3 hs3
  have B0 := sub64 _ _ _ t0 d0 hs0 o0 bi0 b0 ht0 hd0
  have B1 := sub64 _ _ _ t1 d1 hs1 o1 hd0 b1 ht1 hd1
  have B2 := sub64 _ _ _ t2 d2 hs2 wo0 hd1 b2 ht2 hd2
  have B3 := sub64 _ _ _ t3 d3 hs3 o3 hd2 b3 ht3 hd3
  clear V a0 a1 a2 a3 b0 b1 b2 b3 ex ey
  go_enter Try.func79, Try.ntmps79
  go_wp2_with fail
  go_region
  go_wp2_with fail
  go_region
  go_wp2_with fail
  go_region
  go_wp2_with fail
  go_region
  go_wp2_with (first | simp only [B0] | simp only [B1] | simp only [B2] | simp only [B3])
  have R := rl_mod (n + m)
  refine (setAbove_o z o c T ho t0 t1 t2 t3 d3 (n + m - 7237005577332262213973186563042994240857116359379907606001950938285454250989) ht0 ht1 ht2 ht3 hd3 HV.out.1 ?_ ?_ _ ?_).mono ?_
  · rw [HV.out.2]; exact R.1
  · rw [HV.out.2]; unfold RL at R; omega
  · exact hz
  rintro e w' ⟨rfl, hn, hg⟩
  rw [HV.out.2] at hn
  go_wp2_with fail
  go_end0
  exact ⟨rfl, hn, ⟨hg.os, hg.tape, hg.output, hg.size, hg.block⟩⟩

set_option maxHeartbeats 4000000 in
set_option maxRecDepth 100000 in
theorem addProduct_o (W x o : Nat) (c : Array Value) (T : TypeId) (y : Nat) (a n m : Int) (ha0 : 0 ≤ a) (ha1 : a < 115792089237316195423570985008687907853269984665640564039457584007913129639936) (rn : RL n) (rm : RL m) (w : World) (hW : WideAt w W a) (hx : Blk w x c T) (hc : Wc c o n) (hy : NumAt w y m) :
    Calls Try.prog 99 #[.pointer (some ⟨W, 0, none⟩), .pointer (some ⟨x, o, none⟩), .pointer (some ⟨y, 0, none⟩)] w fun e w' => e = .returned (.tuple #[]) ∧ WideAt w' W (a + n * m) ∧ Chg w w' [W] := by
  have kx0 := (hx.cell o).trans hc.1; have kx1 := (hx.cell (o + 1)).trans hc.2.1; have kx2 := (hx.cell (o + 2)).trans hc.2.2.1; have kx3 := (hx.cell (o + 3)).trans hc.2.2.2
  obtain ⟨lx0, lx1, lx2, lx3⟩ := hc
  have ky0 := hy.c0; have ky1 := hy.c1; have ky2 := hy.c2; have ky3 := hy.c3
  have kw0 := hW.c0; have kw1 := hW.c1; have kw2 := hW.c2; have kw3 := hW.c3
  have ex := wrd_sum n rn.1 (by unfold RL at rn; omega)
  have ey := wrd_sum m rm.1 (by unfold RL at rm; omega)
  have ea := wrd_sum a ha0 ha1
  have HW : Blk w W #[.int .u64 (wrd a 0), .int .u64 (wrd a 1), .int .u64 (wrd a 2), .int .u64 (wrd a 3), .int .u64 (wrd a 4), .int .u64 (wrd a 5), .int .u64 (wrd a 6), .int .u64 (wrd a 7)] 143 := hW
  have HX0 : Blk w x c T := hx
  clear hx hy hW
  have qx0 := wrd_wo n 0
  have qx1 := wrd_wo n 1
  have qx2 := wrd_wo n 2
  have qx3 := wrd_wo n 3
  have qy0 := wrd_wo m 0
  have qy1 := wrd_wo m 1
  have qy2 := wrd_wo m 2
  have qy3 := wrd_wo m 3
  have qw0 := wrd_wo a 0
  have qw1 := wrd_wo a 1
  have qw2 := wrd_wo a 2
  have qw3 := wrd_wo a 3
  generalize wrd n 0 = x0 at *
  generalize wrd n 1 = x1 at *
  generalize wrd n 2 = x2 at *
  generalize wrd n 3 = x3 at *
  generalize wrd m 0 = y0 at *
  generalize wrd m 1 = y1 at *
  generalize wrd m 2 = y2 at *
  generalize wrd m 3 = y3 at *
  generalize wrd a 0 = w0 at *
  generalize wrd a 1 = w1 at *
  generalize wrd a 2 = w2 at *
  generalize wrd a 3 = w3 at *
  obtain ⟨r0, c0, h0, Wr0, Wc0⟩ := stepx x0 y0 w0 0 qx0 qy0 qw0 wo0
  have S0 := step_any x0 y0 w0 0 r0 c0 qx0 qy0 qw0 wo0 h0 Wr0 Wc0
  obtain ⟨r1, c1, h1, Wr1, Wc1⟩ := stepx x0 y1 w1 c0 qx0 qy1 qw1 Wc0
  have S1 := step_any x0 y1 w1 c0 r1 c1 qx0 qy1 qw1 Wc0 h1 Wr1 Wc1
  obtain ⟨r2, c2, h2, Wr2, Wc2⟩ := stepx x0 y2 w2 c1 qx0 qy2 qw2 Wc1
  have S2 := step_any x0 y2 w2 c1 r2 c2 qx0 qy2 qw2 Wc1 h2 Wr2 Wc2
  obtain ⟨r3, r4, h3, Wr3, Wr4⟩ := stepx x0 y3 w3 c2 qx0 qy3 qw3 Wc2
  have S3 := step_any x0 y3 w3 c2 r3 r4 qx0 qy3 qw3 Wc2 h3 Wr3 Wr4
  obtain ⟨s1, d0, h4, Ws1, Wd0⟩ := stepx x1 y0 r1 0 qx1 qy0 Wr1 wo0
  have S4 := step_any x1 y0 r1 0 s1 d0 qx1 qy0 Wr1 wo0 h4 Ws1 Wd0
  obtain ⟨s2, d1, h5, Ws2, Wd1⟩ := stepx x1 y1 r2 d0 qx1 qy1 Wr2 Wd0
  have S5 := step_any x1 y1 r2 d0 s2 d1 qx1 qy1 Wr2 Wd0 h5 Ws2 Wd1
  obtain ⟨s3, d2, h6, Ws3, Wd2⟩ := stepx x1 y2 r3 d1 qx1 qy2 Wr3 Wd1
  have S6 := step_any x1 y2 r3 d1 s3 d2 qx1 qy2 Wr3 Wd1 h6 Ws3 Wd2
  obtain ⟨s4, s5, h7, Ws4, Ws5⟩ := stepx x1 y3 r4 d2 qx1 qy3 Wr4 Wd2
  have S7 := step_any x1 y3 r4 d2 s4 s5 qx1 qy3 Wr4 Wd2 h7 Ws4 Ws5
  obtain ⟨t2, e0, h8, Wt2, We0⟩ := stepx x2 y0 s2 0 qx2 qy0 Ws2 wo0
  have S8 := step_any x2 y0 s2 0 t2 e0 qx2 qy0 Ws2 wo0 h8 Wt2 We0
  obtain ⟨t3, e1, h9, Wt3, We1⟩ := stepx x2 y1 s3 e0 qx2 qy1 Ws3 We0
  have S9 := step_any x2 y1 s3 e0 t3 e1 qx2 qy1 Ws3 We0 h9 Wt3 We1
  obtain ⟨t4, e2, h10, Wt4, We2⟩ := stepx x2 y2 s4 e1 qx2 qy2 Ws4 We1
  have S10 := step_any x2 y2 s4 e1 t4 e2 qx2 qy2 Ws4 We1 h10 Wt4 We2
  obtain ⟨t5, t6, h11, Wt5, Wt6⟩ := stepx x2 y3 s5 e2 qx2 qy3 Ws5 We2
  have S11 := step_any x2 y3 s5 e2 t5 t6 qx2 qy3 Ws5 We2 h11 Wt5 Wt6
  obtain ⟨u3, f0, h12, Wu3, Wf0⟩ := stepx x3 y0 t3 0 qx3 qy0 Wt3 wo0
  have S12 := step_any x3 y0 t3 0 u3 f0 qx3 qy0 Wt3 wo0 h12 Wu3 Wf0
  obtain ⟨u4, f1, h13, Wu4, Wf1⟩ := stepx x3 y1 t4 f0 qx3 qy1 Wt4 Wf0
  have S13 := step_any x3 y1 t4 f0 u4 f1 qx3 qy1 Wt4 Wf0 h13 Wu4 Wf1
  obtain ⟨u5, f2, h14, Wu5, Wf2⟩ := stepx x3 y2 t5 f1 qx3 qy2 Wt5 Wf1
  have S14 := step_any x3 y2 t5 f1 u5 f2 qx3 qy2 Wt5 Wf1 h14 Wu5 Wf2
  obtain ⟨u6, u7, h15, Wu6, Wu7⟩ := stepx x3 y3 t6 f2 qx3 qy3 Wt6 Wf2
  have S15 := step_any x3 y3 t6 f2 u6 u7 qx3 qy3 Wt6 Wf2 h15 Wu6 Wu7
  have V := prod_lin a (x0 * y0) (x0 * y1) (x0 * y2) (x0 * y3) (x1 * y0) (x1 * y1) (x1 * y2) (x1 * y3) (x2 * y0) (x2 * y1) (x2 * y2) (x2 * y3) (x3 * y0) (x3 * y1) (x3 * y2) (x3 * y3) w0 w1 w2 w3 r0 c0 r1 c1 r2 c2 r3 r4 s1 d0 s2 d1 s3 d2 s4 s5 t2 e0 t3 e1 t4 e2 t5 t6 u3 f0 u4 f1 u5 f2 u6 u7 ea h0 h1 h2 h3 h4 h5 h6 h7 h8 h9 h10 h11 h12 h13 h14 h15
  rw [← prod_exp, ex, ey] at V
  obtain ⟨j0, j1, j2, j3, j4, j5, j6, j7⟩ := wrd_is8 _ r0 s1 t2 u3 u4 u5 u6 u7 Wr0 Ws1 Wt2 Wu3 Wu4 Wu5 Wu6 Wu7 V
  unfold WideAt wd8
  rw [← j0, ← j1, ← j2, ← j3, ← j4, ← j5, ← j6, ← j7]
  clear j0 j1 j2 j3 j4 j5 j6 j7 V ex ey ea h0 h1 h2 h3 h4 h5 h6 h7 h8 h9 h10 h11 h12 h13 h14 h15 Wc0 Wc1 Wc2 Wd0 Wd1 Wd2 We0 We1 We2 Wf0 Wf1 Wf2 Wr0 Wr1 Wr2 Wr3 Wr4 Ws1 Ws2 Ws3 Ws4 Ws5 Wt2 Wt3 Wt4 Wt5 Wt6 Wu3 Wu4 Wu5 Wu6 Wu7 qw0 qw1 qw2 qw3 qx0 qx1 qx2 qx3 qy0 qy1 qy2 qy3
  go_enter Try.func99, Try.ntmps99
  go_wp2_with fail
  go_quiet (fail)
  generalize hwq : World.drewN w _ = wq
  have CQ : Chg w wq [] := by rw [← hwq]; exact (Chg.refl w _).drewN _
  replace HW := HW.chg CQ (by simp)
  have HX : Blk wq x c T := HX0.chg CQ (by simp)
  have HLX : Hid (c[o]? = some (.int .u64 x0) ∧ c[o + 1]? = some (.int .u64 x1) ∧ c[o + 2]? = some (.int .u64 x2) ∧ c[o + 3]? = some (.int .u64 x3)) := ⟨lx0, lx1, lx2, lx3⟩
  clear lx0 lx1 lx2 lx3
  clear hwq kx0 kx1 kx2 kx3 ky0 ky1 ky2 ky3 kw0 kw1 kw2 kw3 HX0
  go_wp2_with fail
  refine wp_region_held_drew (S := fun w' => Chg wq w' []) (by kernel_rfl) ((Chg.refl wq _).drew) (fun hHeld => ?_)
  refine take_val (v := ?_) 0 (some 36) rfl (by kernel_rfl) (by kernel_rfl) (by kernel_rfl) (fun _ _ _ h => h) rfl rfl (fun w hSw => ?_) hHeld ?_
  rotate_left
  · (go_simp; try with_reducible rfl)
  try simp only [Act.put, List.setIfInBounds_toArray, List.set_cons_zero, List.set_cons_succ]
  refine take_val (v := ?_) 1 (some 37) rfl (by kernel_rfl) (by kernel_rfl) (by kernel_rfl) (fun _ _ _ h => h) rfl rfl (fun w hSw => ?_) hHeld ?_
  rotate_left
  · (go_simp; try with_reducible rfl)
  try simp only [Act.put, List.setIfInBounds_toArray, List.set_cons_zero, List.set_cons_succ]
  refine take_val (v := ?_) 2 (some 38) rfl (by kernel_rfl) (by kernel_rfl) (by kernel_rfl) (fun _ _ _ h => h) rfl rfl (fun w hSw => ?_) hHeld ?_
  rotate_left
  · (go_simp; try with_reducible rfl)
  try simp only [Act.put, List.setIfInBounds_toArray, List.set_cons_zero, List.set_cons_succ]
  refine take_val (v := ?_) 3 (some 39) rfl (by kernel_rfl) (by kernel_rfl) (by kernel_rfl) (fun _ _ _ h => h) rfl rfl (fun w hSw => ?_) hHeld ?_
  rotate_left
  · have cx := ((HX.chg hSw (by simp)).cell (o)).trans HLX.out.1
    (go_simp; try with_reducible rfl)
  try simp only [Act.put, List.setIfInBounds_toArray, List.set_cons_zero, List.set_cons_succ]
  refine take_val (v := ?_) 4 (some 40) rfl (by kernel_rfl) (by kernel_rfl) (by kernel_rfl) (fun _ _ _ h => h) rfl rfl (fun w hSw => ?_) hHeld ?_
  rotate_left
  · (go_simp; try with_reducible rfl)
  try simp only [Act.put, List.setIfInBounds_toArray, List.set_cons_zero, List.set_cons_succ]
  refine take_val (v := ?_) 5 (some 41) rfl (by kernel_rfl) (by kernel_rfl) (by kernel_rfl) (fun _ _ _ h => h) rfl rfl (fun w hSw => ?_) hHeld ?_
  rotate_left
  · (go_simp; try with_reducible rfl)
  try simp only [Act.put, List.setIfInBounds_toArray, List.set_cons_zero, List.set_cons_succ]
  refine take_val (v := ?_) 6 (some 42) rfl (by kernel_rfl) (by kernel_rfl) (by kernel_rfl) (fun _ _ _ h => h) rfl rfl (fun w hSw => ?_) hHeld ?_
  rotate_left
  · (go_simp; try with_reducible rfl)
  try simp only [Act.put, List.setIfInBounds_toArray, List.set_cons_zero, List.set_cons_succ]
  refine take_val (v := ?_) 7 (some 43) rfl (by kernel_rfl) (by kernel_rfl) (by kernel_rfl) (fun _ _ _ h => h) rfl rfl (fun w hSw => ?_) hHeld ?_
  rotate_left
  · (go_simp; try with_reducible rfl)
  try simp only [Act.put, List.setIfInBounds_toArray, List.set_cons_zero, List.set_cons_succ]
  refine take_val (v := ?_) 8 (some 44) rfl (by kernel_rfl) (by kernel_rfl) (by kernel_rfl) (fun _ _ _ h => h) rfl rfl (fun w hSw => ?_) hHeld ?_
  rotate_left
  · have cx := (HW.chg hSw (by simp)).cell 0
    (go_simp; try with_reducible rfl)
  try simp only [Act.put, List.setIfInBounds_toArray, List.set_cons_zero, List.set_cons_succ]
  refine wpAnyH_ready (rs := [9]) (by kernel_rfl) (by simp) ?_
  refine AllReadyH.cons (o := _) rfl (fun K hK => ?_) ?_
  ·
    go_simp
    refine (S0 _).mono ?_
    rintro e wz ⟨rfl, rfl⟩
    go_wp2_with fail
    refine hK.out _ _ (hHeld) (fun hHeld => ?_)
    clear hK K
    try simp only [Act.put, List.setIfInBounds_toArray, List.set_cons_zero, List.set_cons_succ]
    refine take_val (v := ?_) 10 (some 35) rfl (by kernel_rfl) (by kernel_rfl) (by kernel_rfl) (fun _ _ _ h => h) rfl rfl (fun w hSw => ?_) hHeld ?_
    rotate_left
    · (go_simp; try with_reducible rfl)
    try simp only [Act.put, List.setIfInBounds_toArray, List.set_cons_zero, List.set_cons_succ]
    refine take_val (v := ?_) 11 (some 46) rfl (by kernel_rfl) (by kernel_rfl) (by kernel_rfl) (fun _ _ _ h => h) rfl rfl (fun w hSw => ?_) hHeld ?_
    rotate_left
    · (go_simp; try with_reducible rfl)
    try simp only [Act.put, List.setIfInBounds_toArray, List.set_cons_zero, List.set_cons_succ]
    refine take_val (v := ?_) 12 (some 47) rfl (by kernel_rfl) (by kernel_rfl) (by kernel_rfl) (fun _ _ _ h => h) rfl rfl (fun w hSw => ?_) hHeld ?_
    rotate_left
    · (go_simp; try with_reducible rfl)
    try simp only [Act.put, List.setIfInBounds_toArray, List.set_cons_zero, List.set_cons_succ]
    refine take_val (v := ?_) 13 (some 10) rfl (by kernel_rfl) (by kernel_rfl) (by kernel_rfl) (fun _ _ _ h => h) rfl rfl (fun w hSw => ?_) hHeld ?_
    rotate_left
    · (go_simp; try with_reducible rfl)
    try simp only [Act.put, List.setIfInBounds_toArray, List.set_cons_zero, List.set_cons_succ]
    refine take_val (v := ?_) 14 (some 11) rfl (by kernel_rfl) (by kernel_rfl) (by kernel_rfl) (fun _ _ _ h => h) rfl rfl (fun w hSw => ?_) hHeld ?_
    rotate_left
    · (go_simp; try with_reducible rfl)
    try simp only [Act.put, List.setIfInBounds_toArray, List.set_cons_zero, List.set_cons_succ]
    refine wpAnyH_done (by kernel_rfl) ?_ _
    replace HW := HW.drew
    replace HX := HX.drew
    replace CQ := CQ.drew
    clear hHeld
    generalize World.drew wq = wq at *
    clear S0
    go_wp2_with fail
    refine wp_region_held_drew (S := fun w' => Chg wq w' []) (by kernel_rfl) ((Chg.refl wq _).drew) (fun hHeld => ?_)
    refine take_val (v := ?_) 0 (some 49) rfl (by kernel_rfl) (by kernel_rfl) (by kernel_rfl) (fun _ _ _ h => h) rfl rfl (fun w hSw => ?_) hHeld ?_
    rotate_left
    · (go_simp; try with_reducible rfl)
    try simp only [Act.put, List.setIfInBounds_toArray, List.set_cons_zero, List.set_cons_succ]
    refine take_val (v := ?_) 1 (some 50) rfl (by kernel_rfl) (by kernel_rfl) (by kernel_rfl) (fun _ _ _ h => h) rfl rfl (fun w hSw => ?_) hHeld ?_
    rotate_left
    · (go_simp; try with_reducible rfl)
    try simp only [Act.put, List.setIfInBounds_toArray, List.set_cons_zero, List.set_cons_succ]
    refine take_val (v := ?_) 2 (some 51) rfl (by kernel_rfl) (by kernel_rfl) (by kernel_rfl) (fun _ _ _ h => h) rfl rfl (fun w hSw => ?_) hHeld ?_
    rotate_left
    · (go_simp; try with_reducible rfl)
    try simp only [Act.put, List.setIfInBounds_toArray, List.set_cons_zero, List.set_cons_succ]
    refine take_val (v := ?_) 3 (some 52) rfl (by kernel_rfl) (by kernel_rfl) (by kernel_rfl) (fun _ _ _ h => h) rfl rfl (fun w hSw => ?_) hHeld ?_
    rotate_left
    · have cx := ((HX.chg hSw (by simp)).cell (o)).trans HLX.out.1
      (go_simp; try with_reducible rfl)
    try simp only [Act.put, List.setIfInBounds_toArray, List.set_cons_zero, List.set_cons_succ]
    refine take_val (v := ?_) 4 (some 53) rfl (by kernel_rfl) (by kernel_rfl) (by kernel_rfl) (fun _ _ _ h => h) rfl rfl (fun w hSw => ?_) hHeld ?_
    rotate_left
    · (go_simp; try with_reducible rfl)
    try simp only [Act.put, List.setIfInBounds_toArray, List.set_cons_zero, List.set_cons_succ]
    refine take_val (v := ?_) 5 (some 54) rfl (by kernel_rfl) (by kernel_rfl) (by kernel_rfl) (fun _ _ _ h => h) rfl rfl (fun w hSw => ?_) hHeld ?_
    rotate_left
    · (go_simp; try with_reducible rfl)
    try simp only [Act.put, List.setIfInBounds_toArray, List.set_cons_zero, List.set_cons_succ]
    refine take_val (v := ?_) 6 (some 55) rfl (by kernel_rfl) (by kernel_rfl) (by kernel_rfl) (fun _ _ _ h => h) rfl rfl (fun w hSw => ?_) hHeld ?_
    rotate_left
    · (go_simp; try with_reducible rfl)
    try simp only [Act.put, List.setIfInBounds_toArray, List.set_cons_zero, List.set_cons_succ]
    refine take_val (v := ?_) 7 (some 56) rfl (by kernel_rfl) (by kernel_rfl) (by kernel_rfl) (fun _ _ _ h => h) rfl rfl (fun w hSw => ?_) hHeld ?_
    rotate_left
    · (go_simp; try with_reducible rfl)
    try simp only [Act.put, List.setIfInBounds_toArray, List.set_cons_zero, List.set_cons_succ]
    refine take_val (v := ?_) 8 (some 57) rfl (by kernel_rfl) (by kernel_rfl) (by kernel_rfl) (fun _ _ _ h => h) rfl rfl (fun w hSw => ?_) hHeld ?_
    rotate_left
    · have cx := (HW.chg hSw (by simp)).cell 1
      (go_simp; try with_reducible rfl)
    try simp only [Act.put, List.setIfInBounds_toArray, List.set_cons_zero, List.set_cons_succ]
    refine take_val (v := ?_) 9 (some 58) rfl (by kernel_rfl) (by kernel_rfl) (by kernel_rfl) (fun _ _ _ h => h) rfl rfl (fun w hSw => ?_) hHeld ?_
    rotate_left
    · (go_simp; try with_reducible rfl)
    try simp only [Act.put, List.setIfInBounds_toArray, List.set_cons_zero, List.set_cons_succ]
    refine wpAnyH_ready (rs := [10]) (by kernel_rfl) (by simp) ?_
    refine AllReadyH.cons (o := _) rfl (fun K hK => ?_) ?_
    ·
      go_simp
      refine (S1 _).mono ?_
      rintro e wz ⟨rfl, rfl⟩
      go_wp2_with fail
      refine hK.out _ _ (hHeld) (fun hHeld => ?_)
      clear hK K
      try simp only [Act.put, List.setIfInBounds_toArray, List.set_cons_zero, List.set_cons_succ]
      refine take_val (v := ?_) 11 (some 48) rfl (by kernel_rfl) (by kernel_rfl) (by kernel_rfl) (fun _ _ _ h => h) rfl rfl (fun w hSw => ?_) hHeld ?_
      rotate_left
      · (go_simp; try with_reducible rfl)
      try simp only [Act.put, List.setIfInBounds_toArray, List.set_cons_zero, List.set_cons_succ]
      refine take_val (v := ?_) 12 (some 60) rfl (by kernel_rfl) (by kernel_rfl) (by kernel_rfl) (fun _ _ _ h => h) rfl rfl (fun w hSw => ?_) hHeld ?_
      rotate_left
      · (go_simp; try with_reducible rfl)
      try simp only [Act.put, List.setIfInBounds_toArray, List.set_cons_zero, List.set_cons_succ]
      refine take_val (v := ?_) 13 (some 61) rfl (by kernel_rfl) (by kernel_rfl) (by kernel_rfl) (fun _ _ _ h => h) rfl rfl (fun w hSw => ?_) hHeld ?_
      rotate_left
      · (go_simp; try with_reducible rfl)
      try simp only [Act.put, List.setIfInBounds_toArray, List.set_cons_zero, List.set_cons_succ]
      refine take_val (v := ?_) 14 (some 10) rfl (by kernel_rfl) (by kernel_rfl) (by kernel_rfl) (fun _ _ _ h => h) rfl rfl (fun w hSw => ?_) hHeld ?_
      rotate_left
      · (go_simp; try with_reducible rfl)
      try simp only [Act.put, List.setIfInBounds_toArray, List.set_cons_zero, List.set_cons_succ]
      refine take_val (v := ?_) 15 (some 12) rfl (by kernel_rfl) (by kernel_rfl) (by kernel_rfl) (fun _ _ _ h => h) rfl rfl (fun w hSw => ?_) hHeld ?_
      rotate_left
      · (go_simp; try with_reducible rfl)
      try simp only [Act.put, List.setIfInBounds_toArray, List.set_cons_zero, List.set_cons_succ]
      refine wpAnyH_done (by kernel_rfl) ?_ _
      replace HW := HW.drew
      replace HX := HX.drew
      replace CQ := CQ.drew
      clear hHeld
      generalize World.drew wq = wq at *
      clear S1
      go_wp2_with fail
      refine wp_region_held_drew (S := fun w' => Chg wq w' []) (by kernel_rfl) ((Chg.refl wq _).drew) (fun hHeld => ?_)
      refine take_val (v := ?_) 0 (some 63) rfl (by kernel_rfl) (by kernel_rfl) (by kernel_rfl) (fun _ _ _ h => h) rfl rfl (fun w hSw => ?_) hHeld ?_
      rotate_left
      · (go_simp; try with_reducible rfl)
      try simp only [Act.put, List.setIfInBounds_toArray, List.set_cons_zero, List.set_cons_succ]
      refine take_val (v := ?_) 1 (some 64) rfl (by kernel_rfl) (by kernel_rfl) (by kernel_rfl) (fun _ _ _ h => h) rfl rfl (fun w hSw => ?_) hHeld ?_
      rotate_left
      · (go_simp; try with_reducible rfl)
      try simp only [Act.put, List.setIfInBounds_toArray, List.set_cons_zero, List.set_cons_succ]
      refine take_val (v := ?_) 2 (some 65) rfl (by kernel_rfl) (by kernel_rfl) (by kernel_rfl) (fun _ _ _ h => h) rfl rfl (fun w hSw => ?_) hHeld ?_
      rotate_left
      · (go_simp; try with_reducible rfl)
      try simp only [Act.put, List.setIfInBounds_toArray, List.set_cons_zero, List.set_cons_succ]
      refine take_val (v := ?_) 3 (some 66) rfl (by kernel_rfl) (by kernel_rfl) (by kernel_rfl) (fun _ _ _ h => h) rfl rfl (fun w hSw => ?_) hHeld ?_
      rotate_left
      · have cx := ((HX.chg hSw (by simp)).cell (o)).trans HLX.out.1
        (go_simp; try with_reducible rfl)
      try simp only [Act.put, List.setIfInBounds_toArray, List.set_cons_zero, List.set_cons_succ]
      refine take_val (v := ?_) 4 (some 67) rfl (by kernel_rfl) (by kernel_rfl) (by kernel_rfl) (fun _ _ _ h => h) rfl rfl (fun w hSw => ?_) hHeld ?_
      rotate_left
      · (go_simp; try with_reducible rfl)
      try simp only [Act.put, List.setIfInBounds_toArray, List.set_cons_zero, List.set_cons_succ]
      refine take_val (v := ?_) 5 (some 68) rfl (by kernel_rfl) (by kernel_rfl) (by kernel_rfl) (fun _ _ _ h => h) rfl rfl (fun w hSw => ?_) hHeld ?_
      rotate_left
      · (go_simp; try with_reducible rfl)
      try simp only [Act.put, List.setIfInBounds_toArray, List.set_cons_zero, List.set_cons_succ]
      refine take_val (v := ?_) 6 (some 69) rfl (by kernel_rfl) (by kernel_rfl) (by kernel_rfl) (fun _ _ _ h => h) rfl rfl (fun w hSw => ?_) hHeld ?_
      rotate_left
      · (go_simp; try with_reducible rfl)
      try simp only [Act.put, List.setIfInBounds_toArray, List.set_cons_zero, List.set_cons_succ]
      refine take_val (v := ?_) 7 (some 70) rfl (by kernel_rfl) (by kernel_rfl) (by kernel_rfl) (fun _ _ _ h => h) rfl rfl (fun w hSw => ?_) hHeld ?_
      rotate_left
      · (go_simp; try with_reducible rfl)
      try simp only [Act.put, List.setIfInBounds_toArray, List.set_cons_zero, List.set_cons_succ]
      refine take_val (v := ?_) 8 (some 71) rfl (by kernel_rfl) (by kernel_rfl) (by kernel_rfl) (fun _ _ _ h => h) rfl rfl (fun w hSw => ?_) hHeld ?_
      rotate_left
      · have cx := (HW.chg hSw (by simp)).cell 2
        (go_simp; try with_reducible rfl)
      try simp only [Act.put, List.setIfInBounds_toArray, List.set_cons_zero, List.set_cons_succ]
      refine take_val (v := ?_) 9 (some 72) rfl (by kernel_rfl) (by kernel_rfl) (by kernel_rfl) (fun _ _ _ h => h) rfl rfl (fun w hSw => ?_) hHeld ?_
      rotate_left
      · (go_simp; try with_reducible rfl)
      try simp only [Act.put, List.setIfInBounds_toArray, List.set_cons_zero, List.set_cons_succ]
      refine wpAnyH_ready (rs := [10]) (by kernel_rfl) (by simp) ?_
      refine AllReadyH.cons (o := _) rfl (fun K hK => ?_) ?_
      ·
        go_simp
        refine (S2 _).mono ?_
        rintro e wz ⟨rfl, rfl⟩
        go_wp2_with fail
        refine hK.out _ _ (hHeld) (fun hHeld => ?_)
        clear hK K
        try simp only [Act.put, List.setIfInBounds_toArray, List.set_cons_zero, List.set_cons_succ]
        refine take_val (v := ?_) 11 (some 62) rfl (by kernel_rfl) (by kernel_rfl) (by kernel_rfl) (fun _ _ _ h => h) rfl rfl (fun w hSw => ?_) hHeld ?_
        rotate_left
        · (go_simp; try with_reducible rfl)
        try simp only [Act.put, List.setIfInBounds_toArray, List.set_cons_zero, List.set_cons_succ]
        refine take_val (v := ?_) 12 (some 74) rfl (by kernel_rfl) (by kernel_rfl) (by kernel_rfl) (fun _ _ _ h => h) rfl rfl (fun w hSw => ?_) hHeld ?_
        rotate_left
        · (go_simp; try with_reducible rfl)
        try simp only [Act.put, List.setIfInBounds_toArray, List.set_cons_zero, List.set_cons_succ]
        refine take_val (v := ?_) 13 (some 75) rfl (by kernel_rfl) (by kernel_rfl) (by kernel_rfl) (fun _ _ _ h => h) rfl rfl (fun w hSw => ?_) hHeld ?_
        rotate_left
        · (go_simp; try with_reducible rfl)
        try simp only [Act.put, List.setIfInBounds_toArray, List.set_cons_zero, List.set_cons_succ]
        refine take_val (v := ?_) 14 (some 10) rfl (by kernel_rfl) (by kernel_rfl) (by kernel_rfl) (fun _ _ _ h => h) rfl rfl (fun w hSw => ?_) hHeld ?_
        rotate_left
        · (go_simp; try with_reducible rfl)
        try simp only [Act.put, List.setIfInBounds_toArray, List.set_cons_zero, List.set_cons_succ]
        refine take_val (v := ?_) 15 (some 13) rfl (by kernel_rfl) (by kernel_rfl) (by kernel_rfl) (fun _ _ _ h => h) rfl rfl (fun w hSw => ?_) hHeld ?_
        rotate_left
        · (go_simp; try with_reducible rfl)
        try simp only [Act.put, List.setIfInBounds_toArray, List.set_cons_zero, List.set_cons_succ]
        refine wpAnyH_done (by kernel_rfl) ?_ _
        replace HW := HW.drew
        replace HX := HX.drew
        replace CQ := CQ.drew
        clear hHeld
        generalize World.drew wq = wq at *
        clear S2
        go_wp2_with fail
        refine wp_region_held_drew (S := fun w' => Chg wq w' []) (by kernel_rfl) ((Chg.refl wq _).drew) (fun hHeld => ?_)
        refine take_val (v := ?_) 0 (some 77) rfl (by kernel_rfl) (by kernel_rfl) (by kernel_rfl) (fun _ _ _ h => h) rfl rfl (fun w hSw => ?_) hHeld ?_
        rotate_left
        · (go_simp; try with_reducible rfl)
        try simp only [Act.put, List.setIfInBounds_toArray, List.set_cons_zero, List.set_cons_succ]
        refine take_val (v := ?_) 1 (some 78) rfl (by kernel_rfl) (by kernel_rfl) (by kernel_rfl) (fun _ _ _ h => h) rfl rfl (fun w hSw => ?_) hHeld ?_
        rotate_left
        · (go_simp; try with_reducible rfl)
        try simp only [Act.put, List.setIfInBounds_toArray, List.set_cons_zero, List.set_cons_succ]
        refine take_val (v := ?_) 2 (some 79) rfl (by kernel_rfl) (by kernel_rfl) (by kernel_rfl) (fun _ _ _ h => h) rfl rfl (fun w hSw => ?_) hHeld ?_
        rotate_left
        · (go_simp; try with_reducible rfl)
        try simp only [Act.put, List.setIfInBounds_toArray, List.set_cons_zero, List.set_cons_succ]
        refine take_val (v := ?_) 3 (some 80) rfl (by kernel_rfl) (by kernel_rfl) (by kernel_rfl) (fun _ _ _ h => h) rfl rfl (fun w hSw => ?_) hHeld ?_
        rotate_left
        · have cx := ((HX.chg hSw (by simp)).cell (o)).trans HLX.out.1
          (go_simp; try with_reducible rfl)
        try simp only [Act.put, List.setIfInBounds_toArray, List.set_cons_zero, List.set_cons_succ]
        refine take_val (v := ?_) 4 (some 81) rfl (by kernel_rfl) (by kernel_rfl) (by kernel_rfl) (fun _ _ _ h => h) rfl rfl (fun w hSw => ?_) hHeld ?_
        rotate_left
        · (go_simp; try with_reducible rfl)
        try simp only [Act.put, List.setIfInBounds_toArray, List.set_cons_zero, List.set_cons_succ]
        refine take_val (v := ?_) 5 (some 82) rfl (by kernel_rfl) (by kernel_rfl) (by kernel_rfl) (fun _ _ _ h => h) rfl rfl (fun w hSw => ?_) hHeld ?_
        rotate_left
        · (go_simp; try with_reducible rfl)
        try simp only [Act.put, List.setIfInBounds_toArray, List.set_cons_zero, List.set_cons_succ]
        refine take_val (v := ?_) 6 (some 83) rfl (by kernel_rfl) (by kernel_rfl) (by kernel_rfl) (fun _ _ _ h => h) rfl rfl (fun w hSw => ?_) hHeld ?_
        rotate_left
        · (go_simp; try with_reducible rfl)
        try simp only [Act.put, List.setIfInBounds_toArray, List.set_cons_zero, List.set_cons_succ]
        refine take_val (v := ?_) 7 (some 84) rfl (by kernel_rfl) (by kernel_rfl) (by kernel_rfl) (fun _ _ _ h => h) rfl rfl (fun w hSw => ?_) hHeld ?_
        rotate_left
        · (go_simp; try with_reducible rfl)
        try simp only [Act.put, List.setIfInBounds_toArray, List.set_cons_zero, List.set_cons_succ]
        refine take_val (v := ?_) 8 (some 85) rfl (by kernel_rfl) (by kernel_rfl) (by kernel_rfl) (fun _ _ _ h => h) rfl rfl (fun w hSw => ?_) hHeld ?_
        rotate_left
        · have cx := (HW.chg hSw (by simp)).cell 3
          (go_simp; try with_reducible rfl)
        try simp only [Act.put, List.setIfInBounds_toArray, List.set_cons_zero, List.set_cons_succ]
        refine take_val (v := ?_) 9 (some 86) rfl (by kernel_rfl) (by kernel_rfl) (by kernel_rfl) (fun _ _ _ h => h) rfl rfl (fun w hSw => ?_) hHeld ?_
        rotate_left
        · (go_simp; try with_reducible rfl)
        try simp only [Act.put, List.setIfInBounds_toArray, List.set_cons_zero, List.set_cons_succ]
        refine wpAnyH_ready (rs := [10]) (by kernel_rfl) (by simp) ?_
        refine AllReadyH.cons (o := _) rfl (fun K hK => ?_) ?_
        ·
          go_simp
          refine (S3 _).mono ?_
          rintro e wz ⟨rfl, rfl⟩
          go_wp2_with fail
          refine hK.out _ _ (hHeld) (fun hHeld => ?_)
          clear hK K
          try simp only [Act.put, List.setIfInBounds_toArray, List.set_cons_zero, List.set_cons_succ]
          refine take_val (v := ?_) 11 (some 76) rfl (by kernel_rfl) (by kernel_rfl) (by kernel_rfl) (fun _ _ _ h => h) rfl rfl (fun w hSw => ?_) hHeld ?_
          rotate_left
          · (go_simp; try with_reducible rfl)
          try simp only [Act.put, List.setIfInBounds_toArray, List.set_cons_zero, List.set_cons_succ]
          refine take_val (v := ?_) 12 (some 88) rfl (by kernel_rfl) (by kernel_rfl) (by kernel_rfl) (fun _ _ _ h => h) rfl rfl (fun w hSw => ?_) hHeld ?_
          rotate_left
          · (go_simp; try with_reducible rfl)
          try simp only [Act.put, List.setIfInBounds_toArray, List.set_cons_zero, List.set_cons_succ]
          refine take_val (v := ?_) 13 (some 89) rfl (by kernel_rfl) (by kernel_rfl) (by kernel_rfl) (fun _ _ _ h => h) rfl rfl (fun w hSw => ?_) hHeld ?_
          rotate_left
          · (go_simp; try with_reducible rfl)
          try simp only [Act.put, List.setIfInBounds_toArray, List.set_cons_zero, List.set_cons_succ]
          refine take_val (v := ?_) 14 (some 14) rfl (by kernel_rfl) (by kernel_rfl) (by kernel_rfl) (fun _ _ _ h => h) rfl rfl (fun w hSw => ?_) hHeld ?_
          rotate_left
          · (go_simp; try with_reducible rfl)
          try simp only [Act.put, List.setIfInBounds_toArray, List.set_cons_zero, List.set_cons_succ]
          refine take_val (v := ?_) 15 (some 15) rfl (by kernel_rfl) (by kernel_rfl) (by kernel_rfl) (fun _ _ _ h => h) rfl rfl (fun w hSw => ?_) hHeld ?_
          rotate_left
          · (go_simp; try with_reducible rfl)
          try simp only [Act.put, List.setIfInBounds_toArray, List.set_cons_zero, List.set_cons_succ]
          refine wpAnyH_done (by kernel_rfl) ?_ _
          replace HW := HW.drew
          replace HX := HX.drew
          replace CQ := CQ.drew
          clear hHeld
          generalize World.drew wq = wq at *
          clear S3
          have cx1 := (HX.cell (o + 1)).trans HLX.out.2.1; have cx2 := (HX.cell (o + 2)).trans HLX.out.2.2.1; have cx3 := (HX.cell (o + 3)).trans HLX.out.2.2.2
          go_wp2_with fail
          refine (S4 _).mono ?_
          rintro e wq ⟨rfl, rfl⟩
          clear S4
          go_wp2_with fail
          refine (S5 _).mono ?_
          rintro e wq ⟨rfl, rfl⟩
          clear S5
          go_wp2_with fail
          refine (S6 _).mono ?_
          rintro e wq ⟨rfl, rfl⟩
          clear S6
          go_wp2_with fail
          refine (S7 _).mono ?_
          rintro e wq ⟨rfl, rfl⟩
          clear S7
          go_wp2_with fail
          refine (S8 _).mono ?_
          rintro e wq ⟨rfl, rfl⟩
          clear S8
          go_wp2_with fail
          refine (S9 _).mono ?_
          rintro e wq ⟨rfl, rfl⟩
          clear S9
          go_wp2_with fail
          refine (S10 _).mono ?_
          rintro e wq ⟨rfl, rfl⟩
          clear S10
          go_wp2_with fail
          refine (S11 _).mono ?_
          rintro e wq ⟨rfl, rfl⟩
          clear S11
          go_wp2_with fail
          refine (S12 _).mono ?_
          rintro e wq ⟨rfl, rfl⟩
          clear S12
          go_wp2_with fail
          refine (S13 _).mono ?_
          rintro e wq ⟨rfl, rfl⟩
          clear S13
          go_wp2_with fail
          refine (S14 _).mono ?_
          rintro e wq ⟨rfl, rfl⟩
          clear S14
          go_wp2_with fail
          refine (S15 _).mono ?_
          rintro e wq ⟨rfl, rfl⟩
          clear S15
          go_wp2_with fail
          refine wp_region_held_drew (S := fun w' => Chg wq w' [W]) (by kernel_rfl) ((Chg.refl wq _).drew) (fun hHeld => ?_)
          replace HW := HW.drew
          generalize World.drew wq = ω0 at *
          refine take_val (v := ?_) 0 (some 219) rfl (by kernel_rfl) (by kernel_rfl) (by kernel_rfl) (fun _ _ _ h => h) rfl rfl (fun w hSw => ?_) hHeld ?_
          rotate_left
          · (go_simp; try with_reducible rfl)
          try simp only [Act.put, List.setIfInBounds_toArray, List.set_cons_zero, List.set_cons_succ]
          refine take_val (v := ?_) 1 (some 220) rfl (by kernel_rfl) (by kernel_rfl) (by kernel_rfl) (fun _ _ _ h => h) rfl rfl (fun w hSw => ?_) hHeld ?_
          rotate_left
          · (go_simp; try with_reducible rfl)
          try simp only [Act.put, List.setIfInBounds_toArray, List.set_cons_zero, List.set_cons_succ]
          refine take_val (v := ?_) 2 (some 221) rfl (by kernel_rfl) (by kernel_rfl) (by kernel_rfl) (fun _ _ _ h => h) rfl rfl (fun w hSw => ?_) hHeld ?_
          rotate_left
          · (go_simp; try with_reducible rfl)
          try simp only [Act.put, List.setIfInBounds_toArray, List.set_cons_zero, List.set_cons_succ]
          refine take_val (v := ?_) 3 (some 222) rfl (by kernel_rfl) (by kernel_rfl) (by kernel_rfl) (fun _ _ _ h => h) rfl rfl (fun w hSw => ?_) hHeld ?_
          rotate_left
          · (go_simp; try with_reducible rfl)
          try simp only [Act.put, List.setIfInBounds_toArray, List.set_cons_zero, List.set_cons_succ]
          refine take_val (v := ?_) 4 (some 223) rfl (by kernel_rfl) (by kernel_rfl) (by kernel_rfl) (fun _ _ _ h => h) rfl rfl (fun w hSw => ?_) hHeld ?_
          rotate_left
          · (go_simp; try with_reducible rfl)
          try simp only [Act.put, List.setIfInBounds_toArray, List.set_cons_zero, List.set_cons_succ]
          refine take_val (v := ?_) 5 (some 224) rfl (by kernel_rfl) (by kernel_rfl) (by kernel_rfl) (fun _ _ _ h => h) rfl rfl (fun w hSw => ?_) hHeld ?_
          rotate_left
          · (go_simp; try with_reducible rfl)
          try simp only [Act.put, List.setIfInBounds_toArray, List.set_cons_zero, List.set_cons_succ]
          refine take_val (v := ?_) 6 (some 225) rfl (by kernel_rfl) (by kernel_rfl) (by kernel_rfl) (fun _ _ _ h => h) rfl rfl (fun w hSw => ?_) hHeld ?_
          rotate_left
          · (go_simp; try with_reducible rfl)
          try simp only [Act.put, List.setIfInBounds_toArray, List.set_cons_zero, List.set_cons_succ]
          refine take_val (v := ?_) 7 (some 226) rfl (by kernel_rfl) (by kernel_rfl) (by kernel_rfl) (fun _ _ _ h => h) rfl rfl (fun w hSw => ?_) hHeld ?_
          rotate_left
          · (go_simp; try with_reducible rfl)
          try simp only [Act.put, List.setIfInBounds_toArray, List.set_cons_zero, List.set_cons_succ]
          refine take_val (v := ?_) 8 (some 227) rfl (by kernel_rfl) (by kernel_rfl) (by kernel_rfl) (fun _ _ _ h => h) rfl rfl (fun w hSw => ?_) hHeld ?_
          rotate_left
          · (go_simp; try with_reducible rfl)
          try simp only [Act.put, List.setIfInBounds_toArray, List.set_cons_zero, List.set_cons_succ]
          refine take_val (v := ?_) 9 (some 228) rfl (by kernel_rfl) (by kernel_rfl) (by kernel_rfl) (fun _ _ _ h => h) rfl rfl (fun w hSw => ?_) hHeld ?_
          rotate_left
          · (go_simp; try with_reducible rfl)
          try simp only [Act.put, List.setIfInBounds_toArray, List.set_cons_zero, List.set_cons_succ]
          refine take_val (v := ?_) 10 (some 229) rfl (by kernel_rfl) (by kernel_rfl) (by kernel_rfl) (fun _ _ _ h => h) rfl rfl (fun w hSw => ?_) hHeld ?_
          rotate_left
          · (go_simp; try with_reducible rfl)
          try simp only [Act.put, List.setIfInBounds_toArray, List.set_cons_zero, List.set_cons_succ]
          refine take_val (v := ?_) 11 (some 230) rfl (by kernel_rfl) (by kernel_rfl) (by kernel_rfl) (fun _ _ _ h => h) rfl rfl (fun w hSw => ?_) hHeld ?_
          rotate_left
          · (go_simp; try with_reducible rfl)
          try simp only [Act.put, List.setIfInBounds_toArray, List.set_cons_zero, List.set_cons_succ]
          refine take_val (v := ?_) 12 (some 231) rfl (by kernel_rfl) (by kernel_rfl) (by kernel_rfl) (fun _ _ _ h => h) rfl rfl (fun w hSw => ?_) hHeld ?_
          rotate_left
          · (go_simp; try with_reducible rfl)
          try simp only [Act.put, List.setIfInBounds_toArray, List.set_cons_zero, List.set_cons_succ]
          refine take_val (v := ?_) 13 (some 232) rfl (by kernel_rfl) (by kernel_rfl) (by kernel_rfl) (fun _ _ _ h => h) rfl rfl (fun w hSw => ?_) hHeld ?_
          rotate_left
          · (go_simp; try with_reducible rfl)
          try simp only [Act.put, List.setIfInBounds_toArray, List.set_cons_zero, List.set_cons_succ]
          refine take_val (v := ?_) 14 (some 233) rfl (by kernel_rfl) (by kernel_rfl) (by kernel_rfl) (fun _ _ _ h => h) rfl rfl (fun w hSw => ?_) hHeld ?_
          rotate_left
          · (go_simp; try with_reducible rfl)
          try simp only [Act.put, List.setIfInBounds_toArray, List.set_cons_zero, List.set_cons_succ]
          refine take_val (v := ?_) 15 (some 234) rfl (by kernel_rfl) (by kernel_rfl) (by kernel_rfl) (fun _ _ _ h => h) rfl rfl (fun w hSw => ?_) hHeld ?_
          rotate_left
          · (go_simp; try with_reducible rfl)
          try simp only [Act.put, List.setIfInBounds_toArray, List.set_cons_zero, List.set_cons_succ]
          refine take_val (v := ?_) 16 (some 235) rfl (by kernel_rfl) (by kernel_rfl) (by kernel_rfl) (fun _ _ _ h => h) rfl rfl (fun w hSw => ?_) hHeld ?_
          rotate_left
          · (go_simp; try with_reducible rfl)
          try simp only [Act.put, List.setIfInBounds_toArray, List.set_cons_zero, List.set_cons_succ]
          refine take_val (v := ?_) 17 (some 236) rfl (by kernel_rfl) (by kernel_rfl) (by kernel_rfl) (fun _ _ _ h => h) rfl rfl (fun w hSw => ?_) hHeld ?_
          rotate_left
          · (go_simp; try with_reducible rfl)
          try simp only [Act.put, List.setIfInBounds_toArray, List.set_cons_zero, List.set_cons_succ]
          refine take_val (v := ?_) 19 (some 237) rfl (by kernel_rfl) (by kernel_rfl) (by kernel_rfl) (fun _ _ _ h => h) rfl rfl (fun w hSw => ?_) hHeld ?_
          rotate_left
          · (go_simp; try with_reducible rfl)
          try simp only [Act.put, List.setIfInBounds_toArray, List.set_cons_zero, List.set_cons_succ]
          refine take_val (v := ?_) 22 (some 239) rfl (by kernel_rfl) (by kernel_rfl) (by kernel_rfl) (fun _ _ _ h => h) rfl rfl (fun w hSw => ?_) hHeld ?_
          rotate_left
          · (go_simp; try with_reducible rfl)
          try simp only [Act.put, List.setIfInBounds_toArray, List.set_cons_zero, List.set_cons_succ]
          refine take_val (v := ?_) 25 (some 241) rfl (by kernel_rfl) (by kernel_rfl) (by kernel_rfl) (fun _ _ _ h => h) rfl rfl (fun w hSw => ?_) hHeld ?_
          rotate_left
          · (go_simp; try with_reducible rfl)
          try simp only [Act.put, List.setIfInBounds_toArray, List.set_cons_zero, List.set_cons_succ]
          refine take_val (v := ?_) 28 (some 243) rfl (by kernel_rfl) (by kernel_rfl) (by kernel_rfl) (fun _ _ _ h => h) rfl rfl (fun w hSw => ?_) hHeld ?_
          rotate_left
          · (go_simp; try with_reducible rfl)
          try simp only [Act.put, List.setIfInBounds_toArray, List.set_cons_zero, List.set_cons_succ]
          refine take_val (v := ?_) 31 (some 245) rfl (by kernel_rfl) (by kernel_rfl) (by kernel_rfl) (fun _ _ _ h => h) rfl rfl (fun w hSw => ?_) hHeld ?_
          rotate_left
          · (go_simp; try with_reducible rfl)
          try simp only [Act.put, List.setIfInBounds_toArray, List.set_cons_zero, List.set_cons_succ]
          refine take_val (v := ?_) 34 (some 247) rfl (by kernel_rfl) (by kernel_rfl) (by kernel_rfl) (fun _ _ _ h => h) rfl rfl (fun w hSw => ?_) hHeld ?_
          rotate_left
          · (go_simp; try with_reducible rfl)
          try simp only [Act.put, List.setIfInBounds_toArray, List.set_cons_zero, List.set_cons_succ]
          refine take_val (v := ?_) 37 (some 249) rfl (by kernel_rfl) (by kernel_rfl) (by kernel_rfl) (fun _ _ _ h => h) rfl rfl (fun w hSw => ?_) hHeld ?_
          rotate_left
          · (go_simp; try with_reducible rfl)
          try simp only [Act.put, List.setIfInBounds_toArray, List.set_cons_zero, List.set_cons_succ]
          refine wpAnyH_ready (rs := [18]) (by kernel_rfl) (by simp) ?_
          refine AllReadyH.cons (o := _) rfl (fun K hK => ?_) ?_
          ·
            have ck := HW.cell 0
            have fk := HW.frozen 0
            simp at ck
            rw [if_pos (by rfl)]
            go_simp
            refine hK.out _ _ (hHeld.setIn (by simp) _ _) (fun hHeld => ?_)
            clear hK K
            try simp only [Act.put, List.setIfInBounds_toArray, List.set_cons_zero, List.set_cons_succ]
            replace HW := HW.setCell 0 (.int .u64 (r0))
            simp only [List.setIfInBounds_toArray, List.set_cons_zero, List.set_cons_succ] at HW
            clear ck fk
            generalize World.setCell ω0 ⟨W, 0, none⟩ (.int .u64 (r0)) = ω1 at *
            refine take_val (v := ?_) 20 (some 238) rfl (by kernel_rfl) (by kernel_rfl) (by kernel_rfl) (fun _ _ _ h => h) rfl rfl (fun w hSw => ?_) hHeld ?_
            rotate_left
            · (go_simp; try with_reducible rfl)
            try simp only [Act.put, List.setIfInBounds_toArray, List.set_cons_zero, List.set_cons_succ]
            refine wpAnyH_ready (rs := [21]) (by kernel_rfl) (by simp) ?_
            refine AllReadyH.cons (o := _) rfl (fun K hK => ?_) ?_
            ·
              have ck := HW.cell 1
              have fk := HW.frozen 1
              simp at ck
              rw [if_pos (by rfl)]
              go_simp
              refine hK.out _ _ (hHeld.setIn (by simp) _ _) (fun hHeld => ?_)
              clear hK K
              try simp only [Act.put, List.setIfInBounds_toArray, List.set_cons_zero, List.set_cons_succ]
              replace HW := HW.setCell 1 (.int .u64 (s1))
              simp only [List.setIfInBounds_toArray, List.set_cons_zero, List.set_cons_succ] at HW
              clear ck fk
              generalize World.setCell ω1 ⟨W, 1, none⟩ (.int .u64 (s1)) = ω2 at *
              refine take_val (v := ?_) 23 (some 240) rfl (by kernel_rfl) (by kernel_rfl) (by kernel_rfl) (fun _ _ _ h => h) rfl rfl (fun w hSw => ?_) hHeld ?_
              rotate_left
              · (go_simp; try with_reducible rfl)
              try simp only [Act.put, List.setIfInBounds_toArray, List.set_cons_zero, List.set_cons_succ]
              refine wpAnyH_ready (rs := [24]) (by kernel_rfl) (by simp) ?_
              refine AllReadyH.cons (o := _) rfl (fun K hK => ?_) ?_
              ·
                have ck := HW.cell 2
                have fk := HW.frozen 2
                simp at ck
                rw [if_pos (by rfl)]
                go_simp
                refine hK.out _ _ (hHeld.setIn (by simp) _ _) (fun hHeld => ?_)
                clear hK K
                try simp only [Act.put, List.setIfInBounds_toArray, List.set_cons_zero, List.set_cons_succ]
                replace HW := HW.setCell 2 (.int .u64 (t2))
                simp only [List.setIfInBounds_toArray, List.set_cons_zero, List.set_cons_succ] at HW
                clear ck fk
                generalize World.setCell ω2 ⟨W, 2, none⟩ (.int .u64 (t2)) = ω3 at *
                refine take_val (v := ?_) 26 (some 242) rfl (by kernel_rfl) (by kernel_rfl) (by kernel_rfl) (fun _ _ _ h => h) rfl rfl (fun w hSw => ?_) hHeld ?_
                rotate_left
                · (go_simp; try with_reducible rfl)
                try simp only [Act.put, List.setIfInBounds_toArray, List.set_cons_zero, List.set_cons_succ]
                refine wpAnyH_ready (rs := [27]) (by kernel_rfl) (by simp) ?_
                refine AllReadyH.cons (o := _) rfl (fun K hK => ?_) ?_
                ·
                  have ck := HW.cell 3
                  have fk := HW.frozen 3
                  simp at ck
                  rw [if_pos (by rfl)]
                  go_simp
                  refine hK.out _ _ (hHeld.setIn (by simp) _ _) (fun hHeld => ?_)
                  clear hK K
                  try simp only [Act.put, List.setIfInBounds_toArray, List.set_cons_zero, List.set_cons_succ]
                  replace HW := HW.setCell 3 (.int .u64 (u3))
                  simp only [List.setIfInBounds_toArray, List.set_cons_zero, List.set_cons_succ] at HW
                  clear ck fk
                  generalize World.setCell ω3 ⟨W, 3, none⟩ (.int .u64 (u3)) = ω4 at *
                  refine take_val (v := ?_) 29 (some 244) rfl (by kernel_rfl) (by kernel_rfl) (by kernel_rfl) (fun _ _ _ h => h) rfl rfl (fun w hSw => ?_) hHeld ?_
                  rotate_left
                  · (go_simp; try with_reducible rfl)
                  try simp only [Act.put, List.setIfInBounds_toArray, List.set_cons_zero, List.set_cons_succ]
                  refine wpAnyH_ready (rs := [30]) (by kernel_rfl) (by simp) ?_
                  refine AllReadyH.cons (o := _) rfl (fun K hK => ?_) ?_
                  ·
                    have ck := HW.cell 4
                    have fk := HW.frozen 4
                    simp at ck
                    rw [if_pos (by rfl)]
                    go_simp
                    refine hK.out _ _ (hHeld.setIn (by simp) _ _) (fun hHeld => ?_)
                    clear hK K
                    try simp only [Act.put, List.setIfInBounds_toArray, List.set_cons_zero, List.set_cons_succ]
                    replace HW := HW.setCell 4 (.int .u64 (u4))
                    simp only [List.setIfInBounds_toArray, List.set_cons_zero, List.set_cons_succ] at HW
                    clear ck fk
                    generalize World.setCell ω4 ⟨W, 4, none⟩ (.int .u64 (u4)) = ω5 at *
                    refine take_val (v := ?_) 32 (some 246) rfl (by kernel_rfl) (by kernel_rfl) (by kernel_rfl) (fun _ _ _ h => h) rfl rfl (fun w hSw => ?_) hHeld ?_
                    rotate_left
                    · (go_simp; try with_reducible rfl)
                    try simp only [Act.put, List.setIfInBounds_toArray, List.set_cons_zero, List.set_cons_succ]
                    refine wpAnyH_ready (rs := [33]) (by kernel_rfl) (by simp) ?_
                    refine AllReadyH.cons (o := _) rfl (fun K hK => ?_) ?_
                    ·
                      have ck := HW.cell 5
                      have fk := HW.frozen 5
                      simp at ck
                      rw [if_pos (by rfl)]
                      go_simp
                      refine hK.out _ _ (hHeld.setIn (by simp) _ _) (fun hHeld => ?_)
                      clear hK K
                      try simp only [Act.put, List.setIfInBounds_toArray, List.set_cons_zero, List.set_cons_succ]
                      replace HW := HW.setCell 5 (.int .u64 (u5))
                      simp only [List.setIfInBounds_toArray, List.set_cons_zero, List.set_cons_succ] at HW
                      clear ck fk
                      generalize World.setCell ω5 ⟨W, 5, none⟩ (.int .u64 (u5)) = ω6 at *
                      refine take_val (v := ?_) 35 (some 248) rfl (by kernel_rfl) (by kernel_rfl) (by kernel_rfl) (fun _ _ _ h => h) rfl rfl (fun w hSw => ?_) hHeld ?_
                      rotate_left
                      · (go_simp; try with_reducible rfl)
                      try simp only [Act.put, List.setIfInBounds_toArray, List.set_cons_zero, List.set_cons_succ]
                      refine wpAnyH_ready (rs := [36]) (by kernel_rfl) (by simp) ?_
                      refine AllReadyH.cons (o := _) rfl (fun K hK => ?_) ?_
                      ·
                        have ck := HW.cell 6
                        have fk := HW.frozen 6
                        simp at ck
                        rw [if_pos (by rfl)]
                        go_simp
                        refine hK.out _ _ (hHeld.setIn (by simp) _ _) (fun hHeld => ?_)
                        clear hK K
                        try simp only [Act.put, List.setIfInBounds_toArray, List.set_cons_zero, List.set_cons_succ]
                        replace HW := HW.setCell 6 (.int .u64 (u6))
                        simp only [List.setIfInBounds_toArray, List.set_cons_zero, List.set_cons_succ] at HW
                        clear ck fk
                        generalize World.setCell ω6 ⟨W, 6, none⟩ (.int .u64 (u6)) = ω7 at *
                        refine take_val (v := ?_) 38 (some 250) rfl (by kernel_rfl) (by kernel_rfl) (by kernel_rfl) (fun _ _ _ h => h) rfl rfl (fun w hSw => ?_) hHeld ?_
                        rotate_left
                        · (go_simp; try with_reducible rfl)
                        try simp only [Act.put, List.setIfInBounds_toArray, List.set_cons_zero, List.set_cons_succ]
                        refine wpAnyH_ready (rs := [39]) (by kernel_rfl) (by simp) ?_
                        refine AllReadyH.cons (o := _) rfl (fun K hK => ?_) ?_
                        ·
                          have ck := HW.cell 7
                          have fk := HW.frozen 7
                          simp at ck
                          rw [if_pos (by rfl)]
                          go_simp
                          refine hK.out _ _ (hHeld.setIn (by simp) _ _) (fun hHeld => ?_)
                          clear hK K
                          try simp only [Act.put, List.setIfInBounds_toArray, List.set_cons_zero, List.set_cons_succ]
                          replace HW := HW.setCell 7 (.int .u64 (u7))
                          simp only [List.setIfInBounds_toArray, List.set_cons_zero, List.set_cons_succ] at HW
                          clear ck fk
                          generalize World.setCell ω7 ⟨W, 7, none⟩ (.int .u64 (u7)) = ω8 at *
                          refine wpAnyH_done (by kernel_rfl) ?_ _
                          go_wp2_with fail
                          go_end0
                          exact ⟨rfl, HW, CQ.wide.trans1 hHeld⟩
                        exact AllReadyH.nil
                      exact AllReadyH.nil
                    exact AllReadyH.nil
                  exact AllReadyH.nil
                exact AllReadyH.nil
              exact AllReadyH.nil
            exact AllReadyH.nil
          exact AllReadyH.nil
        exact AllReadyH.nil
      exact AllReadyH.nil
    exact AllReadyH.nil
  exact AllReadyH.nil

set_option maxHeartbeats 4000000 in
set_option maxRecDepth 100000 in
theorem reduce_o (z o : Nat) (c : Array Value) (T : TypeId) (ho : o + 4 ≤ c.size) (W : Nat) (n : Int) (hn0 : 0 ≤ n) (hn1 : n < 104748499452676539840422070298483172870932545473378073263465323779076281484949585756264642954428933028828373892081922272294952209468332577706512882860032) (hne : ¬ z = W) (w : World) (hz : Blk w z c T) (hW : WideAt w W n) :
    Calls Try.prog 100 #[.pointer (some ⟨z, o, none⟩), .pointer (some ⟨W, 0, none⟩)] w fun e w' => e = .returned (.tuple #[]) ∧ Blk w' z (setL c o (wdL (n % L))) T ∧ Chg w w' [z, W] := by
  obtain ⟨b0, b1, b2, b3, b4⟩ := red_bd n hn0 hn1
  have hv := red_val n
  have HV : Hid (((n % 7237005577332262213973186563042994240829374041602535252466099000494570602496 - n / 7237005577332262213973186563042994240829374041602535252466099000494570602496 * 27742317777372353535851937790883648493 % 7237005577332262213973186563042994240829374041602535252466099000494570602496) % L + n / 7237005577332262213973186563042994240829374041602535252466099000494570602496 * 27742317777372353535851937790883648493 / 7237005577332262213973186563042994240829374041602535252466099000494570602496 * 27742317777372353535851937790883648493) % L = n % L) := hv
  clear hv
  have hzl := hz.lt
  have hWl := hW.lt
  have A0 : An ((w.alloc (.cells #[.int .u64 0, .int .u64 0, .int .u64 0, .int .u64 0] 87)).alloc (.cells #[.int .u64 0, .int .u64 0, .int .u64 0, .int .u64 0] 87)) w.heap.size := (NumAt.new w).an.alloc _
  have A1 : An ((w.alloc (.cells #[.int .u64 0, .int .u64 0, .int .u64 0, .int .u64 0] 87)).alloc (.cells #[.int .u64 0, .int .u64 0, .int .u64 0, .int .u64 0] 87)) (w.heap.size + 1) := by have h := (NumAt.new (w.alloc (.cells #[.int .u64 0, .int .u64 0, .int .u64 0, .int .u64 0] 87))).an; simpa using h
  have CC : Chg w ((w.alloc (.cells #[.int .u64 0, .int .u64 0, .int .u64 0, .int .u64 0] 87)).alloc (.cells #[.int .u64 0, .int .u64 0, .int .u64 0, .int .u64 0] 87)) [z, W] := ((Chg.refl w _).alloc _).alloc _
  replace hz := (hz.alloc (.cells #[.int .u64 0, .int .u64 0, .int .u64 0, .int .u64 0] 87)).alloc (.cells #[.int .u64 0, .int .u64 0, .int .u64 0, .int .u64 0] 87)
  replace hW := (hW.alloc (.cells #[.int .u64 0, .int .u64 0, .int .u64 0, .int .u64 0] 87)).alloc (.cells #[.int .u64 0, .int .u64 0, .int .u64 0, .int .u64 0] 87)
  go_enter Try.func100, Try.ntmps100
  go_wp2_with fail
  have e1 : ¬ W = w.heap.size := by omega
  have e2 : ¬ W = w.heap.size + 1 := by omega
  have e3 : ¬ z = w.heap.size := by omega
  have e4 : ¬ z = w.heap.size + 1 := by omega
  have e5 : ¬ w.heap.size = w.heap.size + 1 := by omega
  have e6 : ¬ w.heap.size + 1 = w.heap.size := by omega
  refine (fold_any W w.heap.size n hn0 (by omega) e1 _ hW A0).mono ?_
  rintro e v1 ⟨rfl, n1, m1, k1⟩
  replace A1 := A1.chg k1 (by simp; omega)
  replace hz := hz.chg k1 (by simp; omega)
  replace CC := CC.trans k1 (by simp)
  clear hW A0 k1
  go_wp2_with fail
  refine (fold_any W (w.heap.size + 1) _ b0 b1 e2 _ m1 A1).mono ?_
  rintro e v2 ⟨rfl, n2, m2, k2⟩
  replace n1 := n1.chg k2 (by simp; omega)
  replace hz := hz.chg k2 (by simp; omega)
  replace CC := CC.trans k2 (by simp)
  clear m1 A1 k2
  go_wp2_with fail
  refine (sub_o z o c T ho w.heap.size (w.heap.size + 1) _ _ b3 b4 _ hz n1 n2).mono ?_
  rintro e v3 ⟨rfl, n3, k3⟩
  replace m2 := m2.chg (Chg.of k3) (by simp; omega)
  replace CC := CC.trans (Chg.of k3) (by simp)
  clear n1 n2 hz k3
  have HW : Blk v3 W #[.int .u64 (wrd (n / 7237005577332262213973186563042994240829374041602535252466099000494570602496 * 27742317777372353535851937790883648493 / 7237005577332262213973186563042994240829374041602535252466099000494570602496 * 27742317777372353535851937790883648493) 0), .int .u64 (wrd (n / 7237005577332262213973186563042994240829374041602535252466099000494570602496 * 27742317777372353535851937790883648493 / 7237005577332262213973186563042994240829374041602535252466099000494570602496 * 27742317777372353535851937790883648493) 1), .int .u64 (wrd (n / 7237005577332262213973186563042994240829374041602535252466099000494570602496 * 27742317777372353535851937790883648493 / 7237005577332262213973186563042994240829374041602535252466099000494570602496 * 27742317777372353535851937790883648493) 2), .int .u64 (wrd (n / 7237005577332262213973186563042994240829374041602535252466099000494570602496 * 27742317777372353535851937790883648493 / 7237005577332262213973186563042994240829374041602535252466099000494570602496 * 27742317777372353535851937790883648493) 3), .int .u64 (wrd (n / 7237005577332262213973186563042994240829374041602535252466099000494570602496 * 27742317777372353535851937790883648493 / 7237005577332262213973186563042994240829374041602535252466099000494570602496 * 27742317777372353535851937790883648493) 4), .int .u64 (wrd (n / 7237005577332262213973186563042994240829374041602535252466099000494570602496 * 27742317777372353535851937790883648493 / 7237005577332262213973186563042994240829374041602535252466099000494570602496 * 27742317777372353535851937790883648493) 5), .int .u64 (wrd (n / 7237005577332262213973186563042994240829374041602535252466099000494570602496 * 27742317777372353535851937790883648493 / 7237005577332262213973186563042994240829374041602535252466099000494570602496 * 27742317777372353535851937790883648493) 6), .int .u64 (wrd (n / 7237005577332262213973186563042994240829374041602535252466099000494570602496 * 27742317777372353535851937790883648493 / 7237005577332262213973186563042994240829374041602535252466099000494570602496 * 27742317777372353535851937790883648493) 7)] 143 := m2
  clear m2
  have hlt := n3.lt
  have r3 := rl_mod (n % 7237005577332262213973186563042994240829374041602535252466099000494570602496 - n / 7237005577332262213973186563042994240829374041602535252466099000494570602496 * 27742317777372353535851937790883648493 % 7237005577332262213973186563042994240829374041602535252466099000494570602496)
  generalize n / 7237005577332262213973186563042994240829374041602535252466099000494570602496 * 27742317777372353535851937790883648493 / 7237005577332262213973186563042994240829374041602535252466099000494570602496 * 27742317777372353535851937790883648493 = n4 at *
  generalize (n % 7237005577332262213973186563042994240829374041602535252466099000494570602496 - n / 7237005577332262213973186563042994240829374041602535252466099000494570602496 * 27742317777372353535851937790883648493 % 7237005577332262213973186563042994240829374041602535252466099000494570602496) % L = n5 at *
  go_wp2_with fail
  refine wp_region_held_drew (S := fun w' => Chg v3 w' [z]) (by kernel_rfl) ((Chg.refl v3 _).drew) (fun hHeld => ?_)
  refine take_val (v := ?_) 0 (some 12) rfl (by kernel_rfl) (by kernel_rfl) (by kernel_rfl) (fun _ _ _ h => h) rfl rfl (fun w hSw => ?_) hHeld ?_
  rotate_left
  · (go_simp; try with_reducible rfl)
  try simp only [Act.put, List.setIfInBounds_toArray, List.set_cons_zero, List.set_cons_succ]
  refine take_val (v := ?_) 1 (some 13) rfl (by kernel_rfl) (by kernel_rfl) (by kernel_rfl) (fun _ _ _ h => h) rfl rfl (fun w hSw => ?_) hHeld ?_
  rotate_left
  · (go_simp; try with_reducible rfl)
  try simp only [Act.put, List.setIfInBounds_toArray, List.set_cons_zero, List.set_cons_succ]
  refine take_val (v := ?_) 2 (some 14) rfl (by kernel_rfl) (by kernel_rfl) (by kernel_rfl) (fun _ _ _ h => h) rfl rfl (fun w hSw => ?_) hHeld ?_
  rotate_left
  · (go_simp; try with_reducible rfl)
  try simp only [Act.put, List.setIfInBounds_toArray, List.set_cons_zero, List.set_cons_succ]
  refine take_val (v := ?_) 3 (some 15) rfl (by kernel_rfl) (by kernel_rfl) (by kernel_rfl) (fun _ _ _ h => h) rfl rfl (fun w hSw => ?_) hHeld ?_
  rotate_left
  · (go_simp; try with_reducible rfl)
  try simp only [Act.put, List.setIfInBounds_toArray, List.set_cons_zero, List.set_cons_succ]
  refine take_val (v := ?_) 4 (some 16) rfl (by kernel_rfl) (by kernel_rfl) (by kernel_rfl) (fun _ _ _ h => h) rfl rfl (fun w hSw => ?_) hHeld ?_
  rotate_left
  · (go_simp; try with_reducible rfl)
  try simp only [Act.put, List.setIfInBounds_toArray, List.set_cons_zero, List.set_cons_succ]
  refine take_val (v := ?_) 5 (some 17) rfl (by kernel_rfl) (by kernel_rfl) (by kernel_rfl) (fun _ _ _ h => h) rfl rfl (fun w hSw => ?_) hHeld ?_
  rotate_left
  · have cx := (HW.chg hSw (by simp; omega)).cell 0
    (go_simp; try with_reducible rfl)
  try simp only [Act.put, List.setIfInBounds_toArray, List.set_cons_zero, List.set_cons_succ]
  refine take_val (v := ?_) 6 (some 18) rfl (by kernel_rfl) (by kernel_rfl) (by kernel_rfl) (fun _ _ _ h => h) rfl rfl (fun w hSw => ?_) hHeld ?_
  rotate_left
  · (go_simp; try with_reducible rfl)
  try simp only [Act.put, List.setIfInBounds_toArray, List.set_cons_zero, List.set_cons_succ]
  refine take_val (v := ?_) 7 (some 19) rfl (by kernel_rfl) (by kernel_rfl) (by kernel_rfl) (fun _ _ _ h => h) rfl rfl (fun w hSw => ?_) hHeld ?_
  rotate_left
  · (go_simp; try with_reducible rfl)
  try simp only [Act.put, List.setIfInBounds_toArray, List.set_cons_zero, List.set_cons_succ]
  refine take_val (v := ?_) 8 (some 20) rfl (by kernel_rfl) (by kernel_rfl) (by kernel_rfl) (fun _ _ _ h => h) rfl rfl (fun w hSw => ?_) hHeld ?_
  rotate_left
  · (go_simp; try with_reducible rfl)
  try simp only [Act.put, List.setIfInBounds_toArray, List.set_cons_zero, List.set_cons_succ]
  refine take_val (v := ?_) 9 (some 21) rfl (by kernel_rfl) (by kernel_rfl) (by kernel_rfl) (fun _ _ _ h => h) rfl rfl (fun w hSw => ?_) hHeld ?_
  rotate_left
  · have cx := (HW.chg hSw (by simp; omega)).cell 1
    (go_simp; try with_reducible rfl)
  try simp only [Act.put, List.setIfInBounds_toArray, List.set_cons_zero, List.set_cons_succ]
  refine take_val (v := ?_) 10 (some 22) rfl (by kernel_rfl) (by kernel_rfl) (by kernel_rfl) (fun _ _ _ h => h) rfl rfl (fun w hSw => ?_) hHeld ?_
  rotate_left
  · (go_simp; try with_reducible rfl)
  try simp only [Act.put, List.setIfInBounds_toArray, List.set_cons_zero, List.set_cons_succ]
  refine take_val (v := ?_) 11 (some 23) rfl (by kernel_rfl) (by kernel_rfl) (by kernel_rfl) (fun _ _ _ h => h) rfl rfl (fun w hSw => ?_) hHeld ?_
  rotate_left
  · (go_simp; try with_reducible rfl)
  try simp only [Act.put, List.setIfInBounds_toArray, List.set_cons_zero, List.set_cons_succ]
  refine take_val (v := ?_) 12 (some 24) rfl (by kernel_rfl) (by kernel_rfl) (by kernel_rfl) (fun _ _ _ h => h) rfl rfl (fun w hSw => ?_) hHeld ?_
  rotate_left
  · (go_simp; try with_reducible rfl)
  try simp only [Act.put, List.setIfInBounds_toArray, List.set_cons_zero, List.set_cons_succ]
  refine take_val (v := ?_) 13 (some 25) rfl (by kernel_rfl) (by kernel_rfl) (by kernel_rfl) (fun _ _ _ h => h) rfl rfl (fun w hSw => ?_) hHeld ?_
  rotate_left
  · have cx := (HW.chg hSw (by simp; omega)).cell 2
    (go_simp; try with_reducible rfl)
  try simp only [Act.put, List.setIfInBounds_toArray, List.set_cons_zero, List.set_cons_succ]
  refine take_val (v := ?_) 14 (some 26) rfl (by kernel_rfl) (by kernel_rfl) (by kernel_rfl) (fun _ _ _ h => h) rfl rfl (fun w hSw => ?_) hHeld ?_
  rotate_left
  · (go_simp; try with_reducible rfl)
  try simp only [Act.put, List.setIfInBounds_toArray, List.set_cons_zero, List.set_cons_succ]
  refine take_val (v := ?_) 15 (some 27) rfl (by kernel_rfl) (by kernel_rfl) (by kernel_rfl) (fun _ _ _ h => h) rfl rfl (fun w hSw => ?_) hHeld ?_
  rotate_left
  · (go_simp; try with_reducible rfl)
  try simp only [Act.put, List.setIfInBounds_toArray, List.set_cons_zero, List.set_cons_succ]
  refine take_val (v := ?_) 16 (some 28) rfl (by kernel_rfl) (by kernel_rfl) (by kernel_rfl) (fun _ _ _ h => h) rfl rfl (fun w hSw => ?_) hHeld ?_
  rotate_left
  · (go_simp; try with_reducible rfl)
  try simp only [Act.put, List.setIfInBounds_toArray, List.set_cons_zero, List.set_cons_succ]
  refine take_val (v := ?_) 17 (some 29) rfl (by kernel_rfl) (by kernel_rfl) (by kernel_rfl) (fun _ _ _ h => h) rfl rfl (fun w hSw => ?_) hHeld ?_
  rotate_left
  · have cx := (HW.chg hSw (by simp; omega)).cell 3
    (go_simp; try with_reducible rfl)
  try simp only [Act.put, List.setIfInBounds_toArray, List.set_cons_zero, List.set_cons_succ]
  refine take_val (v := ?_) 18 (some 30) rfl (by kernel_rfl) (by kernel_rfl) (by kernel_rfl) (fun _ _ _ h => h) rfl rfl (fun w hSw => ?_) hHeld ?_
  rotate_left
  · (go_simp; try with_reducible rfl)
  try simp only [Act.put, List.setIfInBounds_toArray, List.set_cons_zero, List.set_cons_succ]
  refine wpAnyH_ready (rs := [19]) (by kernel_rfl) (by simp) ?_
  refine AllReadyH.cons (o := _) rfl (fun K hK => ?_) ?_
  ·
    rw [if_pos (by rfl)]
    go_simp
    refine hK.out _ _ (hHeld.alloc _) (fun hHeld => ?_)
    clear hK K
    try simp only [Act.put, List.setIfInBounds_toArray, List.set_cons_zero, List.set_cons_succ]
    refine wpAnyH_ready (rs := [20]) (by kernel_rfl) (by simp) ?_
    refine AllReadyH.cons (o := _) rfl (fun K hK => ?_) ?_
    ·
      go_simp
      have n6 : NumAt (v3.drew.alloc (.cells (wd4 n4) 87)) v3.heap.size n4 := Blk.new v3.drew _ _
      have n7 : Blk (v3.drew.alloc (.cells (wd4 n4) 87)) z (setL c o (wdL n5)) T := Blk.alloc n3 _
      refine (add_o z o _ T v3.heap.size _ _ r3 b2 _ n7 (Wc.set ho n5) n6).mono ?_
      rintro e v4 ⟨rfl, n8, k4⟩
      rw [setL_setL c o (wdL n5) (wdL ((n5 + n4) % L)) rfl] at n8
      go_wp2_with fail
      refine hK.out _ _ (hHeld.trans1 (Chg.of k4)) (fun hHeld => ?_)
      clear hK K
      try simp only [Act.put, List.setIfInBounds_toArray, List.set_cons_zero, List.set_cons_succ]
      refine wpAnyH_done (by kernel_rfl) ?_ _
      go_wp2_with fail
      go_end0
      exact ⟨rfl, by rw [← HV.out]; exact n8, CC.trans hHeld (by simp)⟩
    exact AllReadyH.nil
  exact AllReadyH.nil
set_option maxHeartbeats 4000000 in
set_option maxRecDepth 100000 in
theorem mulAdd_o (z o : Nat) (c : Array Value) (T : TypeId) (y a : Nat) (n m k : Int) (rn : RL n) (rm : RL m) (rk : RL k) (w : World) (hz : Blk w z c T) (hx : Wc c o n) (hy : NumAt w y m) (ha : NumAt w a k) :
    Calls Try.prog 60 #[.pointer (some ⟨z, o, none⟩), .pointer (some ⟨z, o, none⟩), .pointer (some ⟨y, 0, none⟩), .pointer (some ⟨a, 0, none⟩)] w fun e w' => e = .returned (.tuple #[]) ∧ Blk w' z (setL c o (wdL ((k + n * m) % L))) T ∧ Chg w w' [z] := by
  have hzl := hz.lt
  obtain ⟨pb0, pb1⟩ := prod_bd k n m rk rn rm
  have hs := wd8_small k rk.1 (by unfold RL at rk; omega)
  have HS : Hid (#[.int .u64 (wrd k 0), .int .u64 (wrd k 1), .int .u64 (wrd k 2), .int .u64 (wrd k 3), .int .u64 0, .int .u64 0, .int .u64 0, .int .u64 0] = wd8 k) := hs
  clear hs
  go_enter Try.func60, Try.ntmps60
  go_wp2_with fail
  refine wp_region_held_drew (S := fun w' => Chg w w' []) (by kernel_rfl) ((Chg.refl w _).drew) (fun hHeld => ?_)
  refine take_val (v := ?_) 0 (some 9) rfl (by kernel_rfl) (by kernel_rfl) (by kernel_rfl) (fun _ _ _ h => h) rfl rfl (fun w hSw => ?_) hHeld ?_
  rotate_left
  · (go_simp; try with_reducible rfl)
  try simp only [Act.put, List.setIfInBounds_toArray, List.set_cons_zero, List.set_cons_succ]
  refine take_val (v := ?_) 1 (some 10) rfl (by kernel_rfl) (by kernel_rfl) (by kernel_rfl) (fun _ _ _ h => h) rfl rfl (fun w hSw => ?_) hHeld ?_
  rotate_left
  · (go_simp; try with_reducible rfl)
  try simp only [Act.put, List.setIfInBounds_toArray, List.set_cons_zero, List.set_cons_succ]
  refine take_val (v := ?_) 2 (some 11) rfl (by kernel_rfl) (by kernel_rfl) (by kernel_rfl) (fun _ _ _ h => h) rfl rfl (fun w hSw => ?_) hHeld ?_
  rotate_left
  · (go_simp; try with_reducible rfl)
  try simp only [Act.put, List.setIfInBounds_toArray, List.set_cons_zero, List.set_cons_succ]
  refine take_val (v := ?_) 3 (some 12) rfl (by kernel_rfl) (by kernel_rfl) (by kernel_rfl) (fun _ _ _ h => h) rfl rfl (fun w hSw => ?_) hHeld ?_
  rotate_left
  · have cx := (NumAt.chg ha hSw (by simp)).c0
    (go_simp; try with_reducible rfl)
  try simp only [Act.put, List.setIfInBounds_toArray, List.set_cons_zero, List.set_cons_succ]
  refine take_val (v := ?_) 4 (some 13) rfl (by kernel_rfl) (by kernel_rfl) (by kernel_rfl) (fun _ _ _ h => h) rfl rfl (fun w hSw => ?_) hHeld ?_
  rotate_left
  · (go_simp; try with_reducible rfl)
  try simp only [Act.put, List.setIfInBounds_toArray, List.set_cons_zero, List.set_cons_succ]
  refine take_val (v := ?_) 5 (some 14) rfl (by kernel_rfl) (by kernel_rfl) (by kernel_rfl) (fun _ _ _ h => h) rfl rfl (fun w hSw => ?_) hHeld ?_
  rotate_left
  · (go_simp; try with_reducible rfl)
  try simp only [Act.put, List.setIfInBounds_toArray, List.set_cons_zero, List.set_cons_succ]
  refine take_val (v := ?_) 6 (some 15) rfl (by kernel_rfl) (by kernel_rfl) (by kernel_rfl) (fun _ _ _ h => h) rfl rfl (fun w hSw => ?_) hHeld ?_
  rotate_left
  · (go_simp; try with_reducible rfl)
  try simp only [Act.put, List.setIfInBounds_toArray, List.set_cons_zero, List.set_cons_succ]
  refine take_val (v := ?_) 7 (some 16) rfl (by kernel_rfl) (by kernel_rfl) (by kernel_rfl) (fun _ _ _ h => h) rfl rfl (fun w hSw => ?_) hHeld ?_
  rotate_left
  · have cx := (NumAt.chg ha hSw (by simp)).c1
    (go_simp; try with_reducible rfl)
  try simp only [Act.put, List.setIfInBounds_toArray, List.set_cons_zero, List.set_cons_succ]
  refine take_val (v := ?_) 8 (some 17) rfl (by kernel_rfl) (by kernel_rfl) (by kernel_rfl) (fun _ _ _ h => h) rfl rfl (fun w hSw => ?_) hHeld ?_
  rotate_left
  · (go_simp; try with_reducible rfl)
  try simp only [Act.put, List.setIfInBounds_toArray, List.set_cons_zero, List.set_cons_succ]
  refine take_val (v := ?_) 9 (some 18) rfl (by kernel_rfl) (by kernel_rfl) (by kernel_rfl) (fun _ _ _ h => h) rfl rfl (fun w hSw => ?_) hHeld ?_
  rotate_left
  · (go_simp; try with_reducible rfl)
  try simp only [Act.put, List.setIfInBounds_toArray, List.set_cons_zero, List.set_cons_succ]
  refine take_val (v := ?_) 10 (some 19) rfl (by kernel_rfl) (by kernel_rfl) (by kernel_rfl) (fun _ _ _ h => h) rfl rfl (fun w hSw => ?_) hHeld ?_
  rotate_left
  · (go_simp; try with_reducible rfl)
  try simp only [Act.put, List.setIfInBounds_toArray, List.set_cons_zero, List.set_cons_succ]
  refine take_val (v := ?_) 11 (some 20) rfl (by kernel_rfl) (by kernel_rfl) (by kernel_rfl) (fun _ _ _ h => h) rfl rfl (fun w hSw => ?_) hHeld ?_
  rotate_left
  · have cx := (NumAt.chg ha hSw (by simp)).c2
    (go_simp; try with_reducible rfl)
  try simp only [Act.put, List.setIfInBounds_toArray, List.set_cons_zero, List.set_cons_succ]
  refine take_val (v := ?_) 12 (some 21) rfl (by kernel_rfl) (by kernel_rfl) (by kernel_rfl) (fun _ _ _ h => h) rfl rfl (fun w hSw => ?_) hHeld ?_
  rotate_left
  · (go_simp; try with_reducible rfl)
  try simp only [Act.put, List.setIfInBounds_toArray, List.set_cons_zero, List.set_cons_succ]
  refine take_val (v := ?_) 13 (some 22) rfl (by kernel_rfl) (by kernel_rfl) (by kernel_rfl) (fun _ _ _ h => h) rfl rfl (fun w hSw => ?_) hHeld ?_
  rotate_left
  · (go_simp; try with_reducible rfl)
  try simp only [Act.put, List.setIfInBounds_toArray, List.set_cons_zero, List.set_cons_succ]
  refine take_val (v := ?_) 14 (some 23) rfl (by kernel_rfl) (by kernel_rfl) (by kernel_rfl) (fun _ _ _ h => h) rfl rfl (fun w hSw => ?_) hHeld ?_
  rotate_left
  · (go_simp; try with_reducible rfl)
  try simp only [Act.put, List.setIfInBounds_toArray, List.set_cons_zero, List.set_cons_succ]
  refine take_val (v := ?_) 15 (some 24) rfl (by kernel_rfl) (by kernel_rfl) (by kernel_rfl) (fun _ _ _ h => h) rfl rfl (fun w hSw => ?_) hHeld ?_
  rotate_left
  · have cx := (NumAt.chg ha hSw (by simp)).c3
    (go_simp; try with_reducible rfl)
  try simp only [Act.put, List.setIfInBounds_toArray, List.set_cons_zero, List.set_cons_succ]
  refine take_val (v := ?_) 16 (some 25) rfl (by kernel_rfl) (by kernel_rfl) (by kernel_rfl) (fun _ _ _ h => h) rfl rfl (fun w hSw => ?_) hHeld ?_
  rotate_left
  · (go_simp; try with_reducible rfl)
  try simp only [Act.put, List.setIfInBounds_toArray, List.set_cons_zero, List.set_cons_succ]
  refine wpAnyH_ready (rs := [17]) (by kernel_rfl) (by simp) ?_
  refine AllReadyH.cons (o := _) rfl (fun K hK => ?_) ?_
  ·
    rw [if_pos (by rfl)]
    go_simp
    refine hK.out _ _ (hHeld.alloc _) (fun hHeld => ?_)
    clear hK K
    try simp only [Act.put, List.setIfInBounds_toArray, List.set_cons_zero, List.set_cons_succ]
    refine wpAnyH_ready (rs := [18]) (by kernel_rfl) (by simp) ?_
    refine AllReadyH.cons (o := _) rfl (fun K hK => ?_) ?_
    ·
      rw [if_pos (by rfl)]
      refine wp_store_row 143 _ _ rfl w.heap.size _ rfl rfl 143 _ (Blk.new w #[.int .u64 0, .int .u64 0, .int .u64 0, .int .u64 0, .int .u64 0, .int .u64 0, .int .u64 0, .int .u64 0] 143).drew wideInfo rfl (by simp [Value.oneCell']) ?_
      refine hK.out _ _ (hHeld.setRowNew (Nat.le_refl _) _) (fun hHeld => ?_)
      clear hK K
      try simp only [Act.put, List.setIfInBounds_toArray, List.set_cons_zero, List.set_cons_succ]
      refine wpAnyH_done (by kernel_rfl) ?_ _
      have HW : WideAt (((w.alloc (.cells #[.int .u64 0, .int .u64 0, .int .u64 0, .int .u64 0, .int .u64 0, .int .u64 0, .int .u64 0, .int .u64 0] 143)).drew).setRow w.heap.size #[.int .u64 (wrd k 0), .int .u64 (wrd k 1), .int .u64 (wrd k 2), .int .u64 (wrd k 3), .int .u64 0, .int .u64 0, .int .u64 0, .int .u64 0]) w.heap.size k := by
        have h := (Blk.new w #[.int .u64 0, .int .u64 0, .int .u64 0, .int .u64 0, .int .u64 0, .int .u64 0, .int .u64 0, .int .u64 0] 143).drew.setRow #[.int .u64 (wrd k 0), .int .u64 (wrd k 1), .int .u64 (wrd k 2), .int .u64 (wrd k 3), .int .u64 0, .int .u64 0, .int .u64 0, .int .u64 0]
        rw [HS.out] at h
        rw [HS.out]
        exact h
      replace hz := hz.chg hHeld (by simp)
      replace hy := hy.chg hHeld (by simp)
      have CC : Chg w (((w.alloc (.cells #[.int .u64 0, .int .u64 0, .int .u64 0, .int .u64 0, .int .u64 0, .int .u64 0, .int .u64 0, .int .u64 0] 143)).drew).setRow w.heap.size #[.int .u64 (wrd k 0), .int .u64 (wrd k 1), .int .u64 (wrd k 2), .int .u64 (wrd k 3), .int .u64 0, .int .u64 0, .int .u64 0, .int .u64 0]) [z] := hHeld.wide
      clear hHeld ha HS
      generalize ((w.alloc (.cells #[.int .u64 0, .int .u64 0, .int .u64 0, .int .u64 0, .int .u64 0, .int .u64 0, .int .u64 0, .int .u64 0] 143)).drew).setRow w.heap.size #[.int .u64 (wrd k 0), .int .u64 (wrd k 1), .int .u64 (wrd k 2), .int .u64 (wrd k 3), .int .u64 0, .int .u64 0, .int .u64 0, .int .u64 0] = v0 at *
      go_wp2_with fail
      refine (addProduct_o w.heap.size z o c T y k n m rk.1 (by unfold RL at rk; omega) rn rm _ HW hz hx hy).mono ?_
      rintro e v1 ⟨rfl, W1, k1⟩
      replace hz := hz.chg k1 (by simp; omega)
      replace CC := CC.new k1 (by omega)
      clear HW hy k1
      go_wp2_with fail
      refine (reduce_o z o c T hx.le w.heap.size _ pb0 pb1 (by omega) _ hz W1).mono ?_
      rintro e v2 ⟨rfl, n2, k2⟩
      replace CC := CC.trans k2 (by simp)
      go_wp2_with fail
      go_end0
      exact ⟨rfl, n2, CC⟩
    exact AllReadyH.nil
  exact AllReadyH.nil
set_option maxHeartbeats 4000000 in
set_option maxRecDepth 100000 in
theorem mul_o (z o : Nat) (c : Array Value) (T : TypeId) (y : Nat) (n m : Int) (rn : RL n) (rm : RL m) (w : World) (hz : Blk w z c T) (hx : Wc c o n) (hy : NumAt w y m) :
    Calls Try.prog 83 #[.pointer (some ⟨z, o, none⟩), .pointer (some ⟨z, o, none⟩), .pointer (some ⟨y, 0, none⟩)] w fun e w' => e = .returned (.tuple #[]) ∧ Blk w' z (setL c o (wdL (n * m % L))) T ∧ Chg w w' [z] := by
  have hn := NumAt.new w
  go_enter Try.func83, Try.ntmps83
  go_wp2_with fail
  refine (mulAdd_o z o c T y w.heap.size n m 0 rn rm ⟨by omega, by omega⟩ _ (hz.alloc _) hx (hy.alloc _) hn).mono ?_
  rintro e v1 ⟨rfl, n1, k1⟩
  go_wp2_with fail
  go_end0
  rw [Int.zero_add] at n1
  exact ⟨rfl, n1, ((Chg.refl w [z]).alloc _).trans1 k1⟩
set_option maxHeartbeats 4000000 in
set_option maxRecDepth 100000 in
theorem bytes_o (z o : Nat) (c : Array Value) (T : TypeId) (n : Int) (rn : R256 n) (w : World) (hz : Blk w z c T) (hc : Wc c o n) :
    Calls Try.prog 61 #[.pointer (some ⟨z, o, none⟩)] w fun e w' => e = .returned (fe n) ∧ Chg w w' [] := by
  have hzlt := hz.lt
  have es := wrd_sum n rn.1 rn.2
  have HZ : Blk w z c T := hz
  have HLX : Hid (c[o]? = some (.int .u64 (wrd n 0)) ∧ c[o + 1]? = some (.int .u64 (wrd n 1)) ∧ c[o + 2]? = some (.int .u64 (wrd n 2)) ∧ c[o + 3]? = some (.int .u64 (wrd n 3))) := hc
  clear hc
  have q0 := wrd_wo n 0; have q1 := wrd_wo n 1; have q2 := wrd_wo n 2; have q3 := wrd_wo n 3
  generalize wrd n 0 = W0 at *; generalize wrd n 1 = W1 at *; generalize wrd n 2 = W2 at *; generalize wrd n 3 = W3 at *
  clear hz
  have HS : Hid (W0 + W1 * 18446744073709551616 + W2 * 340282366920938463463374607431768211456 + W3 * 6277101735386680763835789423207666416102355444464034512896 = n) := es
  clear es
  have HA : Blk (w.alloc (.cells z32 24)) w.heap.size z32 24 := Blk.new w z32 24
  have CC : Chg w (w.alloc (.cells z32 24)) [] := (Chg.refl w []).alloc _
  replace HZ := HZ.alloc (.cells z32 24)
  go_enter Try.func61, Try.ntmps61
  go_wp2_with fail
  change Code.wp _ _ _ _ (w.alloc (.cells z32 24))
  have hne : ¬ z = w.heap.size := by omega
  have hle : w.heap.size ≤ w.heap.size := Nat.le_refl _
  generalize hv : w.alloc (.cells z32 24) = ψ0 at *
  clear hv
  generalize hg : w.heap.size = g at HA hne hle ⊢
  have HG : Hid (w.heap.size = g) := hg
  clear hg
  refine wp_region_held_drew (S := fun w' => Chg ψ0 w' [g]) (by kernel_rfl) ((Chg.refl ψ0 _).drew) (fun hHeld => ?_)
  refine take_val (v := (.slice (some ⟨g, 0, none⟩) 8 32)) 0 (some 3) rfl (by kernel_rfl) (by kernel_rfl) (by kernel_rfl) (fun _ _ _ h => h) rfl rfl (fun w hSw => ?_) hHeld ?_
  · (go_simp; try with_reducible rfl)
  try simp only [Act.put, List.setIfInBounds_toArray, List.set_cons_zero, List.set_cons_succ]
  refine take_val (v := ?_) 1 (some 4) rfl (by kernel_rfl) (by kernel_rfl) (by kernel_rfl) (fun _ _ _ h => h) rfl rfl (fun w hSw => ?_) hHeld ?_
  rotate_left
  · (go_simp; try with_reducible rfl)
  try simp only [Act.put, List.setIfInBounds_toArray, List.set_cons_zero, List.set_cons_succ]
  refine take_val (v := ?_) 2 (some 5) rfl (by kernel_rfl) (by kernel_rfl) (by kernel_rfl) (fun _ _ _ h => h) rfl rfl (fun w hSw => ?_) hHeld ?_
  rotate_left
  · (go_simp; try with_reducible rfl)
  try simp only [Act.put, List.setIfInBounds_toArray, List.set_cons_zero, List.set_cons_succ]
  refine take_val (v := ?_) 3 (some 6) rfl (by kernel_rfl) (by kernel_rfl) (by kernel_rfl) (fun _ _ _ h => h) rfl rfl (fun w hSw => ?_) hHeld ?_
  rotate_left
  · (go_simp; try with_reducible rfl)
  try simp only [Act.put, List.setIfInBounds_toArray, List.set_cons_zero, List.set_cons_succ]
  refine take_val (v := ?_) 4 (some 7) rfl (by kernel_rfl) (by kernel_rfl) (by kernel_rfl) (fun _ _ _ h => h) rfl rfl (fun w hSw => ?_) hHeld ?_
  rotate_left
  · have cx := ((HZ.chg hSw (by simpa using hne)).cell (o)).trans HLX.out.1
    (go_simp; try with_reducible rfl)
  try simp only [Act.put, List.setIfInBounds_toArray, List.set_cons_zero, List.set_cons_succ]
  refine wpAnyH_ready (rs := [5]) (by kernel_rfl) (by simp) ?_
  refine AllReadyH.cons (o := _) rfl (fun K hK => ?_) ?_
  ·
    go_simp
    refine (putWord_blk g 0 32 W0 q0.1 q0.2 _ 24 _ HA.drew (by simp [z32])).mono ?_
    rintro e ψ1 ⟨rfl, HA', kg⟩
    have kc := Chg.of kg
    clear kg HA
    have HA := HA'
    clear HA'
    go_wp2_with fail
    refine hK.out _ _ (hHeld.trans1 kc) (fun hHeld => ?_)
    clear hK K
    try simp only [Act.put, List.setIfInBounds_toArray, List.set_cons_zero, List.set_cons_succ]
    refine wpAnyH_done (by kernel_rfl) ?_ _
    replace HZ := HZ.chg hHeld (by simpa using hne)
    replace CC := CC.new hHeld (Nat.le_of_eq HG.out)
    clear hHeld kc
    go_wp2_with fail
    refine wp_region_held_drew (S := fun w' => Chg ψ1 w' [g]) (by kernel_rfl) ((Chg.refl ψ1 _).drew) (fun hHeld => ?_)
    refine take_val (v := (.slice (some ⟨g, 8, none⟩) 8 24)) 0 (some 9) rfl (by kernel_rfl) (by kernel_rfl) (by kernel_rfl) (fun _ _ _ h => h) rfl rfl (fun w hSw => ?_) hHeld ?_
    · (go_simp; try with_reducible rfl)
    try simp only [Act.put, List.setIfInBounds_toArray, List.set_cons_zero, List.set_cons_succ]
    refine take_val (v := ?_) 1 (some 10) rfl (by kernel_rfl) (by kernel_rfl) (by kernel_rfl) (fun _ _ _ h => h) rfl rfl (fun w hSw => ?_) hHeld ?_
    rotate_left
    · (go_simp; try with_reducible rfl)
    try simp only [Act.put, List.setIfInBounds_toArray, List.set_cons_zero, List.set_cons_succ]
    refine take_val (v := ?_) 2 (some 11) rfl (by kernel_rfl) (by kernel_rfl) (by kernel_rfl) (fun _ _ _ h => h) rfl rfl (fun w hSw => ?_) hHeld ?_
    rotate_left
    · (go_simp; try with_reducible rfl)
    try simp only [Act.put, List.setIfInBounds_toArray, List.set_cons_zero, List.set_cons_succ]
    refine take_val (v := ?_) 3 (some 12) rfl (by kernel_rfl) (by kernel_rfl) (by kernel_rfl) (fun _ _ _ h => h) rfl rfl (fun w hSw => ?_) hHeld ?_
    rotate_left
    · (go_simp; try with_reducible rfl)
    try simp only [Act.put, List.setIfInBounds_toArray, List.set_cons_zero, List.set_cons_succ]
    refine take_val (v := ?_) 4 (some 13) rfl (by kernel_rfl) (by kernel_rfl) (by kernel_rfl) (fun _ _ _ h => h) rfl rfl (fun w hSw => ?_) hHeld ?_
    rotate_left
    · have cx := ((HZ.chg hSw (by simpa using hne)).cell (o + 1)).trans HLX.out.2.1
      (go_simp; try with_reducible rfl)
    try simp only [Act.put, List.setIfInBounds_toArray, List.set_cons_zero, List.set_cons_succ]
    refine wpAnyH_ready (rs := [5]) (by kernel_rfl) (by simp) ?_
    refine AllReadyH.cons (o := _) rfl (fun K hK => ?_) ?_
    ·
      go_simp
      refine (putWord_blk g 8 24 W1 q1.1 q1.2 _ 24 _ HA.drew (by simp [z32])).mono ?_
      rintro e ψ2 ⟨rfl, HA', kg⟩
      have kc := Chg.of kg
      clear kg HA
      have HA := HA'
      clear HA'
      go_wp2_with fail
      refine hK.out _ _ (hHeld.trans1 kc) (fun hHeld => ?_)
      clear hK K
      try simp only [Act.put, List.setIfInBounds_toArray, List.set_cons_zero, List.set_cons_succ]
      refine wpAnyH_done (by kernel_rfl) ?_ _
      replace HZ := HZ.chg hHeld (by simpa using hne)
      replace CC := CC.new hHeld (Nat.le_of_eq HG.out)
      clear hHeld kc
      go_wp2_with fail
      refine wp_region_held_drew (S := fun w' => Chg ψ2 w' [g]) (by kernel_rfl) ((Chg.refl ψ2 _).drew) (fun hHeld => ?_)
      refine take_val (v := (.slice (some ⟨g, 16, none⟩) 8 16)) 0 (some 15) rfl (by kernel_rfl) (by kernel_rfl) (by kernel_rfl) (fun _ _ _ h => h) rfl rfl (fun w hSw => ?_) hHeld ?_
      · (go_simp; try with_reducible rfl)
      try simp only [Act.put, List.setIfInBounds_toArray, List.set_cons_zero, List.set_cons_succ]
      refine take_val (v := ?_) 1 (some 16) rfl (by kernel_rfl) (by kernel_rfl) (by kernel_rfl) (fun _ _ _ h => h) rfl rfl (fun w hSw => ?_) hHeld ?_
      rotate_left
      · (go_simp; try with_reducible rfl)
      try simp only [Act.put, List.setIfInBounds_toArray, List.set_cons_zero, List.set_cons_succ]
      refine take_val (v := ?_) 2 (some 17) rfl (by kernel_rfl) (by kernel_rfl) (by kernel_rfl) (fun _ _ _ h => h) rfl rfl (fun w hSw => ?_) hHeld ?_
      rotate_left
      · (go_simp; try with_reducible rfl)
      try simp only [Act.put, List.setIfInBounds_toArray, List.set_cons_zero, List.set_cons_succ]
      refine take_val (v := ?_) 3 (some 18) rfl (by kernel_rfl) (by kernel_rfl) (by kernel_rfl) (fun _ _ _ h => h) rfl rfl (fun w hSw => ?_) hHeld ?_
      rotate_left
      · (go_simp; try with_reducible rfl)
      try simp only [Act.put, List.setIfInBounds_toArray, List.set_cons_zero, List.set_cons_succ]
      refine take_val (v := ?_) 4 (some 19) rfl (by kernel_rfl) (by kernel_rfl) (by kernel_rfl) (fun _ _ _ h => h) rfl rfl (fun w hSw => ?_) hHeld ?_
      rotate_left
      · have cx := ((HZ.chg hSw (by simpa using hne)).cell (o + 2)).trans HLX.out.2.2.1
        (go_simp; try with_reducible rfl)
      try simp only [Act.put, List.setIfInBounds_toArray, List.set_cons_zero, List.set_cons_succ]
      refine wpAnyH_ready (rs := [5]) (by kernel_rfl) (by simp) ?_
      refine AllReadyH.cons (o := _) rfl (fun K hK => ?_) ?_
      ·
        go_simp
        refine (putWord_blk g 16 16 W2 q2.1 q2.2 _ 24 _ HA.drew (by simp [z32])).mono ?_
        rintro e ψ3 ⟨rfl, HA', kg⟩
        have kc := Chg.of kg
        clear kg HA
        have HA := HA'
        clear HA'
        go_wp2_with fail
        refine hK.out _ _ (hHeld.trans1 kc) (fun hHeld => ?_)
        clear hK K
        try simp only [Act.put, List.setIfInBounds_toArray, List.set_cons_zero, List.set_cons_succ]
        refine wpAnyH_done (by kernel_rfl) ?_ _
        replace HZ := HZ.chg hHeld (by simpa using hne)
        replace CC := CC.new hHeld (Nat.le_of_eq HG.out)
        clear hHeld kc
        go_wp2_with fail
        refine wp_region_held_drew (S := fun w' => Chg ψ3 w' [g]) (by kernel_rfl) ((Chg.refl ψ3 _).drew) (fun hHeld => ?_)
        refine take_val (v := (.slice (some ⟨g, 24, none⟩) 8 8)) 0 (some 21) rfl (by kernel_rfl) (by kernel_rfl) (by kernel_rfl) (fun _ _ _ h => h) rfl rfl (fun w hSw => ?_) hHeld ?_
        · (go_simp; try with_reducible rfl)
        try simp only [Act.put, List.setIfInBounds_toArray, List.set_cons_zero, List.set_cons_succ]
        refine take_val (v := ?_) 1 (some 22) rfl (by kernel_rfl) (by kernel_rfl) (by kernel_rfl) (fun _ _ _ h => h) rfl rfl (fun w hSw => ?_) hHeld ?_
        rotate_left
        · (go_simp; try with_reducible rfl)
        try simp only [Act.put, List.setIfInBounds_toArray, List.set_cons_zero, List.set_cons_succ]
        refine take_val (v := ?_) 2 (some 23) rfl (by kernel_rfl) (by kernel_rfl) (by kernel_rfl) (fun _ _ _ h => h) rfl rfl (fun w hSw => ?_) hHeld ?_
        rotate_left
        · (go_simp; try with_reducible rfl)
        try simp only [Act.put, List.setIfInBounds_toArray, List.set_cons_zero, List.set_cons_succ]
        refine take_val (v := ?_) 3 (some 24) rfl (by kernel_rfl) (by kernel_rfl) (by kernel_rfl) (fun _ _ _ h => h) rfl rfl (fun w hSw => ?_) hHeld ?_
        rotate_left
        · (go_simp; try with_reducible rfl)
        try simp only [Act.put, List.setIfInBounds_toArray, List.set_cons_zero, List.set_cons_succ]
        refine take_val (v := ?_) 4 (some 25) rfl (by kernel_rfl) (by kernel_rfl) (by kernel_rfl) (fun _ _ _ h => h) rfl rfl (fun w hSw => ?_) hHeld ?_
        rotate_left
        · have cx := ((HZ.chg hSw (by simpa using hne)).cell (o + 3)).trans HLX.out.2.2.2
          (go_simp; try with_reducible rfl)
        try simp only [Act.put, List.setIfInBounds_toArray, List.set_cons_zero, List.set_cons_succ]
        refine wpAnyH_ready (rs := [5]) (by kernel_rfl) (by simp) ?_
        refine AllReadyH.cons (o := _) rfl (fun K hK => ?_) ?_
        ·
          go_simp
          refine (putWord_blk g 24 8 W3 q3.1 q3.2 _ 24 _ HA.drew (by simp [z32])).mono ?_
          rintro e ψ4 ⟨rfl, HA', kg⟩
          have kc := Chg.of kg
          clear kg HA
          have HA := HA'
          clear HA'
          go_wp2_with fail
          refine hK.out _ _ (hHeld.trans1 kc) (fun hHeld => ?_)
          clear hK K
          try simp only [Act.put, List.setIfInBounds_toArray, List.set_cons_zero, List.set_cons_succ]
          refine wpAnyH_done (by kernel_rfl) ?_ _
          replace HZ := HZ.chg hHeld (by simpa using hne)
          replace CC := CC.new hHeld (Nat.le_of_eq HG.out)
          clear hHeld kc
          have HF : Blk ψ4 g (feC n) 24 := by
            refine Blk.to HA ?_
            rw [← HS.out, ← feC_of W0 W1 W2 W3 q0 q1 q2 q3]
            simp [z32]
          clear HA
          go_wp2_with (first | (refine wpList_load_row rfl 24 _ rfl g rfl 24 _ (0, 0) _ HF Try.underlying24 rfl feInfo ?_) | (refine wpList_store_row rfl 24 _ _ rfl g _ rfl rfl 24 _ HF feInfo rfl (feC_one _) ?_))
          refine bodyPost_ret (results_cell_row Try.results61 _ _ g 24 (feC n) (0, 0) _ rfl (Blk.setRow HF _) Try.underlying24 rfl feInfo) rfl ⟨rfl, ?_⟩
          exact CC.setRowNew (Nat.le_of_eq HG.out) _
        exact AllReadyH.nil
      exact AllReadyH.nil
    exact AllReadyH.nil
  exact AllReadyH.nil

theorem L_pos : 0 < L := by unfold L; decide
theorem iv_mul (n : Nat) (h : ¬ LN ∣ n) : iv (n : Int) * (n : Int) % L = 1 := by
  have e : pw (n : Int) 7237005577332262213973186563042994240857116359379907606001950938285454250987 * pw (n : Int) 1 % L = pw (n : Int) 7237005577332262213973186563042994240857116359379907606001950938285454250988 := pw_mul (n : Int) _ _ _ (by decide)
  rw [pw_last n h, pw_one, m_mul_r] at e
  exact e
theorem iv_bd (a : Int) : 0 ≤ iv a ∧ iv a < L := ⟨Int.emod_nonneg _ (by unfold L; decide), Int.emod_lt_of_pos _ L_pos⟩
/-- Whatever is 1 with n is its inverse. -/
theorem iv_one {x : Int} {n : Nat} (hx0 : 0 ≤ x) (hx1 : x < L) (h : ¬ LN ∣ n) (e : x * (n : Int) % L = 1) : x = iv (n : Int) := by
  have h1 : x * (iv (n : Int) * (n : Int)) % L = x := by
    rw [← m_mul_r, iv_mul n h, Int.mul_one, Int.emod_eq_of_lt hx0 hx1]
  have h2 : x * (iv (n : Int) * (n : Int)) % L = iv (n : Int) := by
    rw [show x * (iv (n : Int) * (n : Int)) = x * (n : Int) * iv (n : Int) by rw [Int.mul_comm (iv (n : Int)), Int.mul_assoc], ← m_mul_l, e, Int.one_mul, Int.emod_eq_of_lt (iv_bd _).1 (iv_bd _).2]
  rw [← h1, h2]
/-- The running product. -/
def rp (f : Nat → Nat) (i : Nat) : Int := pL f i % L
theorem rp_rl (f : Nat → Nat) (i : Nat) : RL (rp f i) := rl_mod _
theorem rp_s (f : Nat → Nat) (i : Nat) : rp f i * (((f i : Nat) : Int) % L) % L = rp f (i + 1) := pL_s f i
theorem rp_0 (f : Nat → Nat) : rp f 0 = 1 := by unfold rp; rw [pL_0]; unfold L; decide
theorem rp_bd (f : Nat → Nat) (i : Nat) : 0 ≤ rp f i ∧ rp f i < L := ⟨Int.emod_nonneg _ (by unfold L; decide), Int.emod_lt_of_pos _ L_pos⟩
theorem not_dvd_mul {a b : Nat} (ha : ¬ LN ∣ a) (hb : ¬ LN ∣ b) : ¬ LN ∣ a * b := fun h => by
  rcases pr_l.euclid (q := LN) h with h | h
  · exact ha h
  · exact hb h
theorem not_dvd_one : ¬ LN ∣ 1 := fun h => by
  have := Nat.le_of_dvd (by decide) h
  unfold LN at this
  omega
theorem rp_ne (f : Nat → Nat) : ∀ i, (∀ j, j < i → ¬ LN ∣ f j) → ∃ n : Nat, rp f i = (n : Int) ∧ ¬ LN ∣ n
  | 0, _ => ⟨1, rp_0 f, not_dvd_one⟩
  | i + 1, h => by
    obtain ⟨n, hn, hd⟩ := rp_ne f i (fun j hj => h j (by omega))
    refine ⟨n * f i % LN, ?_, fun hx => ?_⟩
    · rw [← rp_s, hn, m_mul_r, Int.natCast_emod, LN_eq, Int.natCast_mul]
    · exact not_dvd_mul hd (h i (by omega)) ((Nat.dvd_mod_iff (Nat.dvd_refl LN)).1 hx)
theorem first_R {f : Nat → Nat} {N : Nat} (h : ∀ j, j < N → ¬ LN ∣ f j) : iv (rp f N) * rp f N % L = 1 := by
  obtain ⟨n, hn, hd⟩ := rp_ne f N h
  rw [hn]
  exact iv_mul n hd
/-- One step back: what is answered at place i, and what goes on. -/
theorem back_out {f : Nat → Nat} {i : Nat} {R : Int} (h : ¬ LN ∣ f i) (hR : R * rp f (i + 1) % L = 1) : rp f i * R % L = iv ((f i : Nat) : Int) := by
  refine iv_one (Int.emod_nonneg _ (by unfold L; decide)) (Int.emod_lt_of_pos _ L_pos) h ?_
  have e1 : rp f i * R % L * ((f i : Nat) : Int) % L = R * (rp f i * ((f i : Nat) : Int)) % L := by
    rw [m_mul_l, Int.mul_assoc, Int.mul_left_comm]
  rw [e1, ← m_mul_r, ← m_mul_r (rp f i), rp_s, hR]
theorem back_rest {f : Nat → Nat} {i : Nat} {R : Int} (hR : R * rp f (i + 1) % L = 1) : R * (((f i : Nat) : Int) % L) % L * rp f i % L = 1 := by
  rw [m_mul_l, Int.mul_assoc, Int.mul_comm (((f i : Nat) : Int) % L), ← m_mul_r, rp_s, hR]
theorem zero_dec (n : Nat) : eqn ((n : Int) % L) 0 = decide (LN ∣ n) := by
  rw [eqn_eq (rl_mod _) ⟨by decide, by decide⟩]
  congr 1
  rw [eq_iff_iff]
  exact mod_zero_iff n
/-- Rows: zero ahead of i, inverses from i on. -/
def ivR (f : Nat → Nat) (i : Nat) : Nat → List Value := fun j => if j < i then feL 0 else feL (iv ((f j : Nat) : Int))
theorem ivR_step (f : Nat → Nat) (i : Nat) : upR (ivR f (i + 1)) i (feL (iv ((f i : Nat) : Int))) = ivR f i := by
  funext j; unfold upR ivR
  by_cases h : j = i
  · subst h; rw [if_pos rfl, if_neg (by omega)]
  · rw [if_neg h]
    by_cases h2 : j < i
    · rw [if_pos h2, if_pos (by omega)]
    · rw [if_neg h2, if_neg (by omega)]
theorem feL_ok4 (n : Int) : (feL n).length = 32 ∧ ∀ v ∈ feL n, v.oneCell' = true := ⟨rfl, by simp [feL, Value.oneCell']⟩
theorem ivR_ok (f : Nat → Nat) (i m : Nat) : Rok 32 m (ivR f i) := fun j _ => by
  unfold ivR
  split <;> exact feL_ok4 _
theorem z32_ok4 : (z32.toList).length = 32 ∧ ∀ v ∈ z32.toList, v.oneCell' = true := ⟨rfl, by simp [z32, Value.oneCell']⟩
theorem scRow4 : ∃ i, Try.prog.info? 24 = some i ∧ i.zero = some (.agg z32) ∧ i.size = 32 ∧ i.bytes = 32 := by
  have h : (Try.prog.info? 24).map (fun i => (i.zero, i.size, i.bytes)) = some (some (.agg z32), 32, 32) := by kernel_rfl
  cases hi : Try.prog.info? 24 with
  | none => rw [hi] at h; simp at h
  | some i => rw [hi] at h; simp at h; exact ⟨i, rfl, h.1, h.2.1, h.2.2⟩
theorem make_sc4 (r : Nat) (hr : r ≤ 4398046511104) (W : World) : (Instr.makeSlice 60 (.int .i64 (r : Int)) (.int .i64 (r : Int))).run Try.prog W = .ok (.slice (some ⟨W.heap.size, 0, none⟩) r r) (W.alloc (.cells (rL 32 r fun _ => z32.toList).toArray 24)) := by
  obtain ⟨i, hi, hz, h1, h2⟩ := scRow4
  have h := run_make (P := Try.prog) W 60 24 i (.agg z32) Try.underlying60 hi hz .i64 .i64 (r : Int) (r : Int) (by omega) (by omega) (by rw [h2]; omega) (by omega)
  rw [h, h1, Int.toNat_natCast]
  show Result.ok _ (W.alloc (.cells (madeCells z32 (r * 32)) 24)) = _
  rw [made_r z32 32 r rfl]
theorem wdL_zero : wdL 0 = [.int .u64 0, .int .u64 0, .int .u64 0, .int .u64 0] := by simp [wdL, wrd]
theorem nuRow4 : ∃ i, Try.prog.info? 87 = some i ∧ i.zero = some (.agg #[.int .u64 0, .int .u64 0, .int .u64 0, .int .u64 0]) ∧ i.size = 4 ∧ i.bytes = 32 := by
  have h : (Try.prog.info? 87).map (fun i => (i.zero, i.size, i.bytes)) = some (some (.agg #[.int .u64 0, .int .u64 0, .int .u64 0, .int .u64 0]), 4, 32) := by kernel_rfl
  cases hi : Try.prog.info? 87 with
  | none => rw [hi] at h; simp at h
  | some i => rw [hi] at h; simp at h; exact ⟨i, rfl, h.1, h.2.1, h.2.2⟩
theorem make_nu4 (r : Nat) (hr : r ≤ 4398046511104) (W : World) : (Instr.makeSlice 134 (.int .i64 (r : Int)) (.int .i64 (r : Int))).run Try.prog W = .ok (.slice (some ⟨W.heap.size, 0, none⟩) r r) (W.alloc (.cells (rL 4 r fun _ => wdL 0).toArray 87)) := by
  obtain ⟨i, hi, hz, h1, h2⟩ := nuRow4
  have h := run_make (P := Try.prog) W 134 87 i _ Try.underlying134 hi hz .i64 .i64 (r : Int) (r : Int) (by omega) (by omega) (by rw [h2]; omega) (by omega)
  rw [h, h1, Int.toNat_natCast, wdL_zero]
  show Result.ok _ (W.alloc (.cells (madeCells #[.int .u64 0, .int .u64 0, .int .u64 0, .int .u64 0] (r * 4)) 87)) = _
  rw [made_r _ 4 r rfl]
/-- Rows: running products below i, zeros from i on. -/
def rpR (f : Nat → Nat) (i : Nat) : Nat → List Value := fun j => if j < i then wdL (rp f j) else wdL 0
theorem rpR_ok (f : Nat → Nat) (i m : Nat) : Rok 4 m (rpR f i) := fun j _ => by
  unfold rpR
  split <;> exact wdL_ok _
theorem rpR_step (f : Nat → Nat) (i : Nat) : upR (rpR f i) i (wdL (rp f i)) = rpR f (i + 1) := by
  funext j; unfold upR rpR
  by_cases h : j = i
  · subst h; rw [if_pos rfl, if_pos (by omega)]
  · rw [if_neg h]
    by_cases h2 : j < i
    · rw [if_pos h2, if_pos (by omega)]
    · rw [if_neg h2, if_neg (by omega)]
/-- Rows: running products below k (those from k on are whatever). -/
def Rp (f : Nat → Nat) (k : Nat) (F : Nat → List Value) : Prop := ∀ j, j < k → F j = wdL (rp f j)

/-- What InvertAll answers: the place of the first that has none; or the inverses, in a block that is new. -/
def IvP (f : Nat → Nat) (N : Nat) (w : World) (e : Ending) (w' : World) : Prop :=
  (∃ k, k < N ∧ LN ∣ f k ∧ (∀ j, j < k → ¬ LN ∣ f j) ∧ e = .returned (.tuple #[.slice none 0 0, .int .i64 9, .int .i64 (k : Int)])) ∨
  ((∀ j, j < N → ¬ LN ∣ f j) ∧ ∃ o, w.heap.size ≤ o ∧ e = .returned (.tuple #[.slice (some ⟨o, 0, none⟩) N N, .int .i64 0, .int .i64 0]) ∧ Blk w' o (rL 32 N (ivR f 0)).toArray 24)
theorem ZN : #[.int .u64 1, .int .u64 0, .int .u64 0, .int .u64 0] = wd4 1 := by kernel_rfl
theorem row_in (N : Nat) (i : Nat) (h : i < N) : i * 4 + 4 ≤ N * 4 := by omega
set_option maxHeartbeats 16000000 in
set_option maxRecDepth 100000 in
theorem InvertAll_s (v : Value) (N : Nat) (f : Nat → Nat) (hN : N ≤ 4398046511104) (w : World) (hL : Ls w v N f) :
    Calls Try.prog 37 #[v] w fun e w' => IvP f N w e w' ∧ Chg w w' [] := by
  have hge := numGuard
  obtain ⟨p, cp, rfl, hp⟩ := hL.form
  have HN : Hid (N ≤ 4398046511104) := hN
  have HP : Hid (∀ (i : Nat), i < N → ∃ g o, p = some ⟨g, o, none⟩ ∧ g < w.heap.size ∧ Fc w g (o + i * 32) ((f i : Nat) : Int)) := hp
  have HB : Hid (∀ i, i < N → f i < 115792089237316195423570985008687907853269984665640564039457584007913129639936) := hL.1
  have hmk := make_nu4 N hN
  have A0 : Blk (((w.alloc (.cells (rL 4 N fun _ => wdL 0).toArray 87)).alloc (.cells #[.int .u64 1, .int .u64 0, .int .u64 0, .int .u64 0] 87)).alloc (.cells #[.int .u64 0, .int .u64 0, .int .u64 0, .int .u64 0] 87)) w.heap.size (rL 4 N fun _ => wdL 0).toArray 87 := ((Blk.new w _ _).alloc _).alloc _
  have R0 : NumAt (((w.alloc (.cells (rL 4 N fun _ => wdL 0).toArray 87)).alloc (.cells #[.int .u64 1, .int .u64 0, .int .u64 0, .int .u64 0] 87)).alloc (.cells #[.int .u64 0, .int .u64 0, .int .u64 0, .int .u64 0] 87)) (w.heap.size + 1) 1 := by
    have q : Blk (((w.alloc (.cells (rL 4 N fun _ => wdL 0).toArray 87)).alloc (.cells #[.int .u64 1, .int .u64 0, .int .u64 0, .int .u64 0] 87)).alloc (.cells #[.int .u64 0, .int .u64 0, .int .u64 0, .int .u64 0] 87)) (w.alloc (.cells (rL 4 N fun _ => wdL 0).toArray 87)).heap.size #[.int .u64 1, .int .u64 0, .int .u64 0, .int .u64 0] 87 := (Blk.new (w.alloc (.cells (rL 4 N fun _ => wdL 0).toArray 87)) _ _).alloc _
    show Blk _ _ (wd4 1) _
    rw [← ZN]
    simpa using q
  have X0 : An (((w.alloc (.cells (rL 4 N fun _ => wdL 0).toArray 87)).alloc (.cells #[.int .u64 1, .int .u64 0, .int .u64 0, .int .u64 0] 87)).alloc (.cells #[.int .u64 0, .int .u64 0, .int .u64 0, .int .u64 0] 87)) (w.heap.size + 1 + 1) := by
    have q := (NumAt.new ((w.alloc (.cells (rL 4 N fun _ => wdL 0).toArray 87)).alloc (.cells #[.int .u64 1, .int .u64 0, .int .u64 0, .int .u64 0] 87))).an
    simpa using q
  have C0 : Chg w (((w.alloc (.cells (rL 4 N fun _ => wdL 0).toArray 87)).alloc (.cells #[.int .u64 1, .int .u64 0, .int .u64 0, .int .u64 0] 87)).alloc (.cells #[.int .u64 0, .int .u64 0, .int .u64 0, .int .u64 0] 87)) [] := (((Chg.refl w []).alloc _).alloc _).alloc _
  clear hp hL
  go_enter Try.func37, Try.ntmps37
  go_wp2_with fail
  clear hmk
  generalize (((w.alloc (.cells (rL 4 N fun _ => wdL 0).toArray 87)).alloc (.cells #[.int .u64 1, .int .u64 0, .int .u64 0, .int .u64 0] 87)).alloc (.cells #[.int .u64 0, .int .u64 0, .int .u64 0, .int .u64 0] 87)) = v0 at *
  obtain ⟨ab, hab⟩ : ∃ b, w.heap.size = b := ⟨_, rfl⟩
  have HAB : Hid (w.heap.size = ab) := hab
  rw [hab] at A0 R0 X0
  rw [hab]
  obtain ⟨rb, hrb⟩ : ∃ b, ab + 1 = b := ⟨_, rfl⟩
  obtain ⟨xb, hxb⟩ : ∃ b, ab + 1 + 1 = b := ⟨_, rfl⟩
  rw [hrb] at R0
  rw [hxb] at X0
  rw [hxb, hrb]
  have HD : Hid (¬ ab = rb ∧ ¬ ab = xb ∧ ¬ rb = xb) := by show ¬ ab = rb ∧ ¬ ab = xb ∧ ¬ rb = xb; omega
  have HBx : Hid (w.heap.size ≤ xb) := by show w.heap.size ≤ xb; omega
  have HBa : Hid (w.heap.size ≤ ab) := by show w.heap.size ≤ ab; omega
  have HBr : Hid (w.heap.size ≤ rb) := by show w.heap.size ≤ rb; omega
  have HG : Hid (∀ g, g < w.heap.size → ¬ g = xb) := fun g hg => by omega
  have A1 : Blk v0 ab (rL 4 N (rpR f 0)).toArray 87 := A0.to (congrArg List.toArray (rL_congr fun j _ => (if_neg (by omega)).symm))
  have R1 : NumAt v0 rb (rp f 0) := by rw [rp_0]; exact R0
  clear hab hrb hxb hN A0 R0
  go_loopw [18] (fun t wr => ∃ i : Nat, i ≤ N ∧ t = .int .i64 (i : Int) ∧ (∀ j, j < i → ¬ LN ∣ f j) ∧ Blk wr ab (rL 4 N (rpR f i)).toArray 87 ∧ An wr xb ∧ NumAt wr rb (rp f i) ∧ Chg w wr []) (fun t _ => (N - intOf t).toNat)
  case atStart => exact ⟨0, Nat.zero_le _, rfl, fun j hj => by omega, A1, X0, R1, C0⟩
  case round =>
    clear A1 X0 R1 C0
    obtain ⟨i, hi, rfl, hnz, A, X, Rr, C⟩ := hrel
    by_cases h : i < N
    · have hI : (i : Int) < (N : Int) := by omega
      have hI0 : (0 : Int) ≤ (i : Int) := by omega
      have e1 : IntKind.i64.wrap ((i : Int) + 1) = (i : Int) + 1 := by have := HN.out; rw [IntKind.wrap_i64]; omega
      have HM : Hid _ := mN N i h
      have HI : Hid (i < N) := h
      have HNZ : Hid (∀ j, j < i → ¬ LN ∣ f j) := hnz
      obtain ⟨g, o, rfl, hg, hF⟩ := HP.out i h
      have HFc : Hid (Fc w g (o + i * 32) ((f i : Nat) : Int)) := hF
      have HGX : Hid (¬ g = xb) := HG.out g hg
      have r1 : Hid (R256 ((f i : Nat) : Int)) := by have := HB.out i h; exact ⟨by omega, by omega⟩
      have HO : Hid (Rok 4 N (rpR f i)) := rpR_ok f i N
      have HF : Hid (upR (rpR f i) i (wdL (rp f i)) = rpR f (i + 1)) := rpR_step f i
      have HS : Hid (rp f i * (((f i : Nat) : Int) % L) % L = rp f (i + 1)) := rp_s f i
      have HZD : Hid (eqn (((f i : Nat) : Int) % L) 0 = decide (LN ∣ f i)) := zero_dec (f i)
      have HRL : Hid (RL (rp f i)) := rp_rl f i
      obtain ⟨S, hS⟩ : ∃ S : Int, rp f i = S := ⟨_, rfl⟩
      rw [hS] at Rr HF HS HRL
      obtain ⟨Q0, hQ⟩ : ∃ Q, rpR f i = Q := ⟨_, rfl⟩
      rw [hQ] at A HO HF
      clear hi h hg hF HP HB hS hnz hQ
      go_wp2_with fail
      refine (load_at xb g (o + i * 32) ((f i : Nat) : Int) r1.out HGX.out wr X (HFc.out.chg C (by simp))).mono ?_
      rintro e w1 ⟨rfl, Xn, k⟩
      replace A := A.chg k (by have := HD.out.2.1; simp; omega)
      replace Rr := Rr.chg k (by have := HD.out.2.2; simp; omega)
      replace C := C.new k HBx.out
      clear k X
      have XB : Blk w1 xb (wd4 (((f i : Nat) : Int) % L)) 87 := Xn
      have RB : Blk w1 rb (wd4 S) 87 := Rr
      by_cases hz : LN ∣ f i
      · have hzd : eqn (((f i : Nat) : Int) % L) 0 = true := by rw [HZD.out]; exact decide_eq_true hz
        have HZ : Hid (LN ∣ f i) := hz
        clear hz HZD HF HS
        go_wp2_with (with_reducible refine load_b XB 87 (.tmp 7) Try.underlying87 ?_ ?_ ?_ ?_ ?_ ?_
                     · rfl
                     · rfl
                     · rfl
                     · rfl
                     · exact numInfo)
        go_ret3
        exact ⟨Or.inl ⟨i, HI.out, HZ.out, HNZ.out, rfl⟩, C⟩
      · have hzd : eqn (((f i : Nat) : Int) % L) 0 = false := by rw [HZD.out]; exact decide_eq_false hz
        have HNZ2 : Hid (∀ j, j < i + 1 → ¬ LN ∣ f j) := fun j hj => by
          rcases Nat.lt_or_ge j i with h | h
          · exact HNZ.out j h
          · rw [show j = i by omega]; exact hz
        clear hz HZD HNZ
        go_wp2_with (first
          | (with_reducible refine load_b XB 87 (.tmp 7) Try.underlying87 ?_ ?_ ?_ ?_ ?_ ?_
             · rfl
             · rfl
             · rfl
             · rfl
             · exact numInfo)
          | (with_reducible refine load_b RB 87 (.tmp 6) Try.underlying87 ?_ ?_ ?_ ?_ ?_ ?_
             · rfl
             · rfl
             · rfl
             · rfl
             · exact numInfo)
          | (with_reducible refine wpList_store_rw ?_ 87 (.tmp 32) (.tmp 31) ?_ ab 4 N i Q0 (wdL S) 87 ?_ ?_ A HO.out HI.out (wdL_ok S).1 (wdL_ok S).2 numInfo ?_
             · rfl
             · rfl
             · rfl
             · rfl
             intro w2 b2 k2
             rw [HF.out] at b2))
        replace Xn := Xn.chg k2 (by have := HD.out.2.1; simp; omega)
        replace Rr := Rr.chg k2 (by have := HD.out.1; simp; omega)
        replace C := C.new k2 HBa.out
        clear k2 A HO XB RB
        refine (mul_any rb rb xb S _ HRL.out (rl_mod _) w2 Rr.an Rr Xn).mono ?_
        rintro e w3 ⟨rfl, Rn, k⟩
        rw [HS.out] at Rn
        replace b2 := b2.chg k (by have := HD.out.1; simp; omega)
        replace Xn := Xn.chg k (by have := HD.out.2.2; simp; omega)
        replace C := C.new k HBr.out
        clear k Rr
        go_wp2_with fail
        exact ⟨⟨i + 1, HI.out, by go_num, HNZ2.out, b2, Xn.an, Rn, C⟩, HM.out⟩
    · obtain rfl : i = N := by omega
      have hI : ¬ (i : Int) < (i : Int) := by omega
      have HNZ : Hid (∀ j, j < i → ¬ LN ∣ f j) := hnz
      have HRL : Hid (RL (rp f i)) := rp_rl f i
      have HFR : Hid (iv (rp f i) * rp f i % L = 1) := first_R hnz
      have hmk := make_sc4 i HN.out
      have A2 : Hid (∀ j, j < i → rpR f i j = wdL (rp f j)) := fun j hj => if_pos hj
      clear h hi hnz
      go_wp2_with fail
      refine (invert_any rb rb (rp f i) HRL.out wr Rr.an Rr).mono ?_
      rintro e w1 ⟨rfl, Rn, k⟩
      obtain ⟨R, hRe⟩ : ∃ R, iv (rp f i) = R := ⟨_, rfl⟩
      have Rm : NumAt w1 rb R := by rw [← hRe]; exact Rn
      have hRR : RL R := by rw [← hRe]; exact pw_rl _ _
      have HR : Hid (R * rp f i % L = 1) := by rw [← hRe]; exact HFR.out
      replace A := A.chg k (by have := HD.out.1; simp; omega)
      replace X := X.chg k (by have := HD.out.2.2; simp; omega)
      replace C := C.new k HBr.out
      have HSZ : Hid (w.heap.size ≤ w1.heap.size) := C.size
      have HAL : Hid (ab < w1.heap.size ∧ rb < w1.heap.size ∧ xb < w1.heap.size) := ⟨A.lt, Rm.lt, X.lt⟩
      have O0 : Blk (w1.alloc (.cells (rL 32 i fun _ => z32.toList).toArray 24)) w1.heap.size (rL 32 i fun _ => z32.toList).toArray 24 := Blk.new w1 _ _
      replace A := A.alloc (.cells (rL 32 i fun _ => z32.toList).toArray 24)
      replace X := X.alloc (.cells (rL 32 i fun _ => z32.toList).toArray 24)
      replace Rm := Rm.alloc (.cells (rL 32 i fun _ => z32.toList).toArray 24)
      replace C := C.alloc (.cells (rL 32 i fun _ => z32.toList).toArray 24)
      clear k Rn Rr hRe HFR HRL
      go_wp2_with fail
      clear hmk
      generalize (w1.alloc (.cells (rL 32 i fun _ => z32.toList).toArray 24)) = w2 at *
      obtain ⟨ob, hob⟩ : ∃ b, w1.heap.size = b := ⟨_, rfl⟩
      rw [hob] at O0 HAL HSZ
      rw [hob]
      have HBo : Hid (w.heap.size ≤ ob) := HSZ
      have HDo : Hid (¬ ob = ab ∧ ¬ ob = rb ∧ ¬ ob = xb) := by have := HAL.out; show ¬ ob = ab ∧ ¬ ob = rb ∧ ¬ ob = xb; omega
      have O1 : Blk w2 ob (rL 32 i (ivR f i)).toArray 24 := O0.to (congrArg List.toArray (rL_congr fun j hj => by unfold ivR; rw [if_pos hj, z32_fe]))
      clear hob O0 HSZ HAL
      go_loopw [41] (fun t wr => ∃ (q k : Nat) (F : Nat → List Value) (R : Int), q + k = i ∧ t = .int .i64 (q : Int) ∧ Rok 4 i F ∧ (∀ j, j < k → F j = wdL (rp f j)) ∧ Blk wr ab (rL 4 i F).toArray 87 ∧ Blk wr ob (rL 32 i (ivR f k)).toArray 24 ∧ An wr xb ∧ NumAt wr rb R ∧ RL R ∧ R * rp f k % L = 1 ∧ Chg w wr []) (fun t _ => (i - intOf t).toNat)
      case atStart => exact ⟨0, i, rpR f i, R, by omega, rfl, rpR_ok f i i, A2.out, A, O1, X, Rm, hRR, HR.out, C⟩
      case round =>
        clear O1 X A Rm HR C hI R hRR A2
        obtain ⟨q, k, F, R, hqk, rfl, hF, hFj, A, O, X, Rr, hRL, hR, C⟩ := hrel
        rcases k with _ | k
        · obtain rfl : q = i := by omega
          have hI : ¬ (q : Int) < (q : Int) := by omega
          go_wp2_with fail
          go_ret3
          exact ⟨Or.inr ⟨HNZ.out, ob, HBo.out, rfl, O⟩, C⟩
        · have hI : (q : Int) < (i : Int) := by omega
          have hI0 : (0 : Int) ≤ (q : Int) := by omega
          have e1 : IntKind.i64.wrap ((q : Int) + 1) = (q : Int) + 1 := by have := HN.out; rw [IntKind.wrap_i64]; omega
          have e2 : IntKind.i64.wrap ((i : Int) - 1) = (i : Int) - 1 := by have := HN.out; rw [IntKind.wrap_i64]; omega
          have e3 : IntKind.i64.wrap ((i : Int) - 1 - (q : Int)) = (k : Int) := by have := HN.out; rw [IntKind.wrap_i64]; omega
          have hK0 : (0 : Int) ≤ (k : Int) := by omega
          have hK1 : (k : Int) < (i : Int) := by omega
          have HK : Hid (k < i) := by show k < i; omega
          have HQ : Hid (q + 1 + k = i) := by show q + 1 + k = i; omega
          have HM : Hid _ := mN i q (by omega)
          obtain ⟨g, o, rfl, hg, hFc⟩ := HP.out k HK.out
          have HFc : Hid (Fc w g (o + k * 32) ((f k : Nat) : Int)) := hFc
          have HGX : Hid (¬ g = xb) := HG.out g hg
          have r1 : Hid (R256 ((f k : Nat) : Int)) := by have := HB.out k HK.out; exact ⟨by omega, by omega⟩
          have HOF : Hid (Rok 4 i F) := hF
          have HWc : Hid (Wc (rL 4 i F).toArray (k * 4) (rp f k)) := Wc.row hF HK.out (hFj k (by omega))
          have HRr : Hid (RL (rp f k)) := rp_rl f k
          have HRL : Hid (RL R) := hRL
          have HFJ : Hid (∀ x, ∀ j, j < k → upR F k x j = wdL (rp f j)) := fun x j hj => by unfold upR; rw [if_neg (by omega)]; exact hFj j (by omega)
          have HOut : Hid (rp f k * R % L = iv ((f k : Nat) : Int)) := back_out (HNZ.out k HK.out) hR
          have HRest : Hid (R * (((f k : Nat) : Int) % L) % L * rp f k % L = 1) := back_rest hR
          have HIS : Hid (upR (ivR f (k + 1)) k (feL (iv ((f k : Nat) : Int))) = ivR f k) := ivR_step f k
          have HIO : Hid (Rok 32 i (ivR f (k + 1))) := ivR_ok f (k + 1) i
          obtain ⟨I, hIe⟩ : ∃ I, iv ((f k : Nat) : Int) = I := ⟨_, rfl⟩
          have HIR : Hid (R256 I) := by rw [← hIe]; exact r256_rl (pw_rl _ _)
          rw [hIe] at HOut HIS
          obtain ⟨Q0, hQ0⟩ : ∃ Q, ivR f (k + 1) = Q := ⟨_, rfl⟩
          rw [hQ0] at O HIS HIO
          clear hR hRL hF hFj hg hFc hIe hqk hQ0
          go_wp2_with fail
          refine wp_region_held_drew (S := fun w' => Chg wr w' [ab]) (by kernel_rfl) ((Chg.refl wr _).drew) (fun hHeld => ?_)
          refine take_val (v := ?_) 0 (some 49) rfl (by kernel_rfl) (by kernel_rfl) (by kernel_rfl) (fun _ _ _ h => h) rfl rfl (fun w hSw => ?_) hHeld ?_
          rotate_left
          · (go_simp; try with_reducible rfl)
          try simp only [Act.put, List.setIfInBounds_toArray, List.set_cons_zero, List.set_cons_succ]
          refine take_val (v := ?_) 1 (some 50) rfl (by kernel_rfl) (by kernel_rfl) (by kernel_rfl) (fun _ _ _ h => h) rfl rfl (fun w hSw => ?_) hHeld ?_
          rotate_left
          · (go_simp; try with_reducible rfl)
          try simp only [Act.put, List.setIfInBounds_toArray, List.set_cons_zero, List.set_cons_succ]
          refine take_val (v := ?_) 2 (some 51) rfl (by kernel_rfl) (by kernel_rfl) (by kernel_rfl) (fun _ _ _ h => h) rfl rfl (fun w hSw => ?_) hHeld ?_
          rotate_left
          · (go_simp; try with_reducible rfl)
          try simp only [Act.put, List.setIfInBounds_toArray, List.set_cons_zero, List.set_cons_succ]
          refine take_val (v := ?_) 3 (some 52) rfl (by kernel_rfl) (by kernel_rfl) (by kernel_rfl) (fun _ _ _ h => h) rfl rfl (fun w hSw => ?_) hHeld ?_
          rotate_left
          · (go_simp; try with_reducible rfl)
          try simp only [Act.put, List.setIfInBounds_toArray, List.set_cons_zero, List.set_cons_succ]
          refine take_val (v := ?_) 4 (some 53) rfl (by kernel_rfl) (by kernel_rfl) (by kernel_rfl) (fun _ _ _ h => h) rfl rfl (fun w hSw => ?_) hHeld ?_
          rotate_left
          · (go_simp; try with_reducible rfl)
          try simp only [Act.put, List.setIfInBounds_toArray, List.set_cons_zero, List.set_cons_succ]
          refine take_val (v := ?_) 5 (some 54) rfl (by kernel_rfl) (by kernel_rfl) (by kernel_rfl) (fun _ _ _ h => h) rfl rfl (fun w hSw => ?_) hHeld ?_
          rotate_left
          · (go_simp; try with_reducible rfl)
          try simp only [Act.put, List.setIfInBounds_toArray, List.set_cons_zero, List.set_cons_succ]
          refine wpAnyH_ready (rs := [6]) (by kernel_rfl) (by simp) ?_
          refine AllReadyH.cons (o := _) rfl (fun K hK => ?_) ?_
          ·
            go_simp
            refine (mul_o ab (k * 4) _ 87 rb (rp f k) R HRr.out HRL.out wr.drew A.drew HWc.out Rr).mono ?_
            rintro e w3 ⟨rfl, A3, kk⟩
            rw [HOut.out, setL_row HOF.out HK.out (wdL_ok I).1 (wdL_ok I).2] at A3
            have KK : Chg wr w3 [ab] := hHeld.trans1 kk
            go_wp2_with fail
            refine hK.out _ _ KK (fun hHeld => ?_)
            clear hK K
            try simp only [Act.put, List.setIfInBounds_toArray, List.set_cons_zero, List.set_cons_succ]
            refine wpAnyH_done (by kernel_rfl) ?_ _
            replace O := O.chg KK (by have := HDo.out.1; simp; omega)
            replace X := X.chg KK (by have := HD.out.2.1; simp; omega)
            replace Rr := Rr.chg KK (by have := HD.out.1; simp; omega)
            replace C := C.new KK HBa.out
            have HWI : Hid (Wc (rL 4 i (upR F k (wdL I))).toArray (k * 4) I) := Wc.row (HOF.out.up k (wdL_ok I).1 (wdL_ok I).2) HK.out (by unfold upR; rw [if_pos rfl])
            clear hHeld kk KK A HWc
            go_wp2_with fail
            refine (bytes_o ab (k * 4) _ 87 I HIR.out w3 A3 HWI.out).mono ?_
            rintro e w4 ⟨rfl, kk⟩
            replace O := O.chg kk (by simp)
            replace A3 := A3.chg kk (by simp)
            replace X := X.chg kk (by simp)
            replace Rr := Rr.chg kk (by simp)
            replace C := C.trans1 kk
            clear kk HWI
            go_wp2_with (with_reducible refine wpList_store_rw ?_ 24 (.tmp 62) (.tmp 61) ?_ ob 32 i k Q0 (feL I) 24 ?_ ?_ O HIO.out HK.out (feL_ok4 I).1 (feL_ok4 I).2 feInfo ?_
                         · rfl
                         · rfl
                         · rfl
                         · rfl
                         intro w5 O5 k5
                         rw [HIS.out] at O5)
            replace A3 := A3.chg k5 (by have := HDo.out.1; simp; omega)
            replace X := X.chg k5 (by have := HDo.out.2.2; simp; omega)
            replace Rr := Rr.chg k5 (by have := HDo.out.2.1; simp; omega)
            replace C := C.new k5 HBo.out
            clear k5 O HIO
            refine (load_at xb g (o + k * 32) ((f k : Nat) : Int) r1.out HGX.out w5 X (HFc.out.chg C (by simp))).mono ?_
            rintro e w6 ⟨rfl, Xn, kk⟩
            replace A3 := A3.chg kk (by have := HD.out.2.1; simp; omega)
            replace O5 := O5.chg kk (by have := HDo.out.2.2; simp; omega)
            replace Rr := Rr.chg kk (by have := HD.out.2.2; simp; omega)
            replace C := C.new kk HBx.out
            clear kk X
            go_wp2_with fail
            refine (mul_any rb rb xb R _ HRL.out (rl_mod _) w6 Rr.an Rr Xn).mono ?_
            rintro e w7 ⟨rfl, Rn, kk⟩
            replace A3 := A3.chg kk (by have := HD.out.1; simp; omega)
            replace O5 := O5.chg kk (by have := HDo.out.2.1; simp; omega)
            replace Xn := Xn.chg kk (by have := HD.out.2.2; simp; omega)
            replace C := C.new kk HBr.out
            clear kk Rr
            go_wp2_with fail
            exact ⟨⟨q + 1, k, upR F k (wdL I), _, HQ.out, by go_num, HOF.out.up k (wdL_ok I).1 (wdL_ok I).2, HFJ.out _, A3, O5, Xn.an, Rn, rl_mod _, HRest.out, C⟩, HM.out⟩
          exact AllReadyH.nil

/-- L less 2. -/
def LM2 : Int := 7237005577332262213973186563042994240857116359379907606001950938285454250987
theorem LM2_eq : ((LN - 2 : Nat) : Int) = LM2 := by unfold LN LM2; decide
theorem LM2_nb : nb (bof LM2) 0 32 = 7237005577332262213973186563042994240857116359379907606001950938285454250987 := by decide +kernel
theorem iv_pw (a : Int) : pw a 7237005577332262213973186563042994240857116359379907606001950938285454250987 = iv a := by unfold iv; exact Eq.refl _
theorem two_dC : #[Value.int .u32 2, .int .u32 0, .int .u32 0, .int .u32 0, .int .u32 0, .int .u32 0, .int .u32 0, .int .u32 0] = dC 2 := by kernel_rfl
set_option maxHeartbeats 8000000 in
set_option maxRecDepth 100000 in
theorem Less2_r (w : World) : Calls Try.prog 88 #[.int .u32 2] w fun e w' => ∃ g, e = .returned (.slice (some ⟨g, 0, none⟩) 32 32) ∧ Blk w' g (feC LM2) 24 ∧ Chg w w' [] := by
  have hO := Order_r
  have HM : Hid (∀ w, Calls Try.prog 81 #[.agg (dC LN), .agg (dC 2)] w fun e w' => e = .returned (.agg (dC (LN - 2))) ∧ Chg w w' []) := fun w => minus_r LN 2 (by unfold LN; decide) w
  have HB : Hid (∀ w, Calls Try.prog 62 #[.agg (dC (LN - 2))] w fun e w' => e = .returned (fe LM2) ∧ Chg w w' []) := fun w => by have h := Back_r (LN - 2) w; rw [LM2_eq] at h; exact h
  obtain ⟨X, hX⟩ : ∃ X, LM2 = X := ⟨_, rfl⟩
  rw [hX] at HB
  rw [hX]
  obtain ⟨A, hA⟩ : ∃ A, dC LN = A := ⟨_, rfl⟩
  obtain ⟨B, hB⟩ : ∃ B, dC (LN - 2) = B := ⟨_, rfl⟩
  rw [hA] at HM hO
  rw [hB] at HM HB
  clear hX hA hB
  go_enter Try.func88, Try.ntmps88
  go_wp2_with fail
  refine (hO _).mono ?_
  rintro e v1 ⟨rfl, k1⟩
  go_wp2_with fail
  rw [two_dC]
  refine (HM.out _).mono ?_
  rintro e v2 ⟨rfl, k2⟩
  go_wp2_with fail
  refine (HB.out _).mono ?_
  rintro e v3 ⟨rfl, k3⟩
  have F := Blk.new v3 z32 24
  have CC : Chg w ((v3.alloc (.cells z32 24)).setRow v3.heap.size (feC X)) [] := (((k1.trans1 k2).trans1 k3).alloc _).setRowNew ((k1.trans1 k2).trans1 k3).size _
  go_wp2_with (refine wpList_store_row rfl 24 _ _ rfl v3.heap.size (feC X) rfl rfl 24 _ F feInfo rfl (feC_one _) ?_)
  go_ret
  exact ⟨_, rfl, F.setRow (feC X), CC⟩
/-- What Less answers, and Power by it. -/
theorem less_pow (m : Nat) (hm : m < 115792089237316195423570985008687907853269984665640564039457584007913129639936) : ∃ lf : Nat → Nat,
    (∀ w, Calls Try.prog 88 #[.int .u32 2] w fun e w' => ∃ g, e = .returned (.slice (some ⟨g, 0, none⟩) 32 32) ∧ Sl w' (.slice (some ⟨g, 0, none⟩) 32 32) 32 lf ∧ Chg w w' []) ∧
    (∀ w v, Sl w v 32 lf → Calls Try.prog 42 #[fe (m : Int), v] w fun e w' => e = .returned (fe (iv (m : Int))) ∧ Chg w w' []) := by
  refine ⟨bof LM2, fun w => (Less2_r w).mono ?_, fun w v hv => ?_⟩
  · rintro e w' ⟨g, he, hB, k⟩
    exact ⟨g, he, Or.inr ⟨g, 0, 32, rfl, Nat.le_refl _, by decide, Bs.ofFe hB⟩, k⟩
  · have h := Power_rs m hm v 32 (bof LM2) (by decide) w hv
    rw [LM2_nb, pI, iv_pw] at h
    exact h
set_option maxHeartbeats 8000000 in
set_option maxRecDepth 100000 in
theorem Invert_rnot (m : Nat) (hm : m < 115792089237316195423570985008687907853269984665640564039457584007913129639936) (h : eqn (cn (m : Int)) 0 = false) (w : World) :
    Calls Try.prog 36 #[fe (m : Int)] w fun e w' => e = .returned (.tuple #[fe (iv (m : Int)), .int .i64 0]) ∧ Chg w w' [] := by
  have ra : R256 (m : Int) := ⟨by omega, by omega⟩
  obtain ⟨lf, hl, hp⟩ := less_pow m hm
  have HL : Hid (∀ w, Calls Try.prog 88 #[.int .u32 2] w fun e w' => ∃ g, e = .returned (.slice (some ⟨g, 0, none⟩) 32 32) ∧ Sl w' (.slice (some ⟨g, 0, none⟩) 32 32) 32 lf ∧ Chg w w' []) := hl
  have HP : Hid (∀ w v, Sl w v 32 lf → Calls Try.prog 42 #[fe (m : Int), v] w fun e w' => e = .returned (fe (iv (m : Int))) ∧ Chg w w' []) := hp
  have HZ : Hid (∀ w, Calls Try.prog 32 #[fe (m : Int)] w fun e w' => e = .returned (.bool false) ∧ Chg w w' []) := fun w => IsZero_q (m : Int) ra false h w
  obtain ⟨T, hT⟩ : ∃ T, iv (m : Int) = T := ⟨_, rfl⟩
  obtain ⟨A, hA⟩ : ∃ A, (m : Int) = A := ⟨_, rfl⟩
  rw [hT, hA] at HP
  rw [hA] at HZ
  rw [hT, hA]
  clear hl hp h hT hA ra
  have HB : Hid (w.heap.size < w.heap.size + 1) := by show w.heap.size < w.heap.size + 1; omega
  have F0 : Blk ((w.alloc (.cells (feC A) 24)).alloc (.cells z32 24)) w.heap.size (feC A) 24 := (Blk.new w (feC A) 24).alloc _
  have F1 : Blk ((w.alloc (.cells (feC A) 24)).alloc (.cells z32 24)) (w.heap.size + 1) z32 24 := by have h := Blk.new (w.alloc (.cells (feC A) 24)) z32 24; simpa using h
  have CC : Chg w ((w.alloc (.cells (feC A) 24)).alloc (.cells z32 24)) [] := ((Chg.refl w []).alloc _).alloc _
  go_enter Try.func36, Try.ntmps36
  go_wp2_with (refine wpList_load_row rfl 24 _ rfl w.heap.size rfl 24 _ (0, 0) _ F0 Try.underlying24 rfl feInfo ?_)
  refine (HZ.out _).mono ?_
  rintro e y ⟨rfl, k⟩
  replace F0 := F0.chg k (by simp)
  replace F1 := F1.chg k (by simp)
  replace CC := CC.trans1 k
  clear k HZ
  generalize w.heap.size + 1 = g2 at *
  generalize hg1 : w.heap.size = g1 at *
  go_wp2_with fail
  refine wp_region_held_drew (S := fun w' => Chg y w' [g2] ∧ Blk w' g1 (feC A) 24) (by kernel_rfl) ⟨(Chg.refl y _).drew, F0.drew⟩ (fun hHeld => ?_)
  refine take_load 0 (some 7) (feC A) rfl (by kernel_rfl) (by kernel_rfl) (by kernel_rfl) (fun _ _ _ h => h) rfl rfl 24 (.tmp 1) rfl g1 rfl 24 _ (fun w hSw => hSw.2) Try.underlying24 rfl feInfo hHeld ?_
  try simp only [Act.put, List.setIfInBounds_toArray, List.set_cons_zero, List.set_cons_succ]
  refine wpAnyH_ready (rs := [1]) (by kernel_rfl) (by simp) ?_
  refine AllReadyH.cons (o := _) rfl (fun K hK => ?_) ?_
  ·
    go_simp
    refine (HL.out _).mono ?_
    rintro e x1 ⟨gl, rfl, SL, k⟩
    go_wp2_with fail
    replace F1 := F1.drew.chg k (by simp)
    replace CC := CC.drew.trans1 k
    refine hK.out _ _ ⟨hHeld.1.trans1 k.wide, hHeld.2.chg k (by simp)⟩ (fun hHeld => ?_)
    clear hK K k HL
    try simp only [Act.put, List.setIfInBounds_toArray, List.set_cons_zero, List.set_cons_succ]
    refine wpAnyH_ready (rs := [2]) (by kernel_rfl) (by simp) ?_
    refine AllReadyH.cons (o := _) rfl (fun K hK => ?_) ?_
    ·
      go_simp
      refine (HP.out _ _ SL).mono ?_
      rintro e x2 ⟨rfl, k⟩
      go_wp2_with fail
      replace F1 := F1.chg k (by simp)
      replace CC := CC.trans1 k
      refine hK.out _ _ ⟨hHeld.1.trans1 k.wide, hHeld.2.chg k (by simp)⟩ (fun hHeld => ?_)
      clear hK K k HP
      try simp only [Act.put, List.setIfInBounds_toArray, List.set_cons_zero, List.set_cons_succ]
      refine wpAnyH_ready (rs := [3]) (by kernel_rfl) (by simp) ?_
      refine AllReadyH.cons (o := _) rfl (fun K hK => ?_) ?_
      ·
        rw [if_pos (by rfl)]
        refine wp_store_row 24 _ _ rfl g2 _ rfl rfl 24 _ F1 feInfo rfl (feC_one _) ?_
        have hS : Chg y (x2.setRow g2 (feC T)) [g2] := hHeld.1.trans1 (Chg.of (gb_setRow (gb_refl _ _) _))
        refine hK.out _ _ ⟨hS, F0.chg hS (by have := HB.out; simp; omega)⟩ (fun hHeld => ?_)
        clear hK K
        try simp only [Act.put, List.setIfInBounds_toArray, List.set_cons_zero, List.set_cons_succ]
        refine take_val (v := ?_) 4 (some 3) rfl (by kernel_rfl) (by kernel_rfl) (by kernel_rfl) (fun _ _ _ h => h) rfl rfl (fun w hSw => ?_) hHeld ?_
        rotate_left
        · (go_simp; try with_reducible rfl)
        try simp only [Act.put, List.setIfInBounds_toArray, List.set_cons_zero, List.set_cons_succ]
        refine wpAnyH_done (by kernel_rfl) ?_ _
        go_wp2_with fail
        exact bodyPost_ret (results_cell_tmp Try.results36 _ _ g2 24 (feC T) _ _ rfl rfl (Blk.setRow F1 _) Try.underlying24 rfl feInfo) rfl ⟨rfl, CC.setRowNew (by have := HB.out; omega) _⟩
      exact AllReadyH.nil
    exact AllReadyH.nil
  exact AllReadyH.nil
set_option maxHeartbeats 8000000 in
set_option maxRecDepth 100000 in
theorem Invert_rzero (m : Nat) (hm : m < 115792089237316195423570985008687907853269984665640564039457584007913129639936) (h : eqn (cn (m : Int)) 0 = true) (w : World) :
    Calls Try.prog 36 #[fe (m : Int)] w fun e w' => e = .returned (.tuple #[fe 0, .int .i64 9]) ∧ Chg w w' [] := by
  have ra : R256 (m : Int) := ⟨by omega, by omega⟩
  have HZ : Hid (∀ w, Calls Try.prog 32 #[fe (m : Int)] w fun e w' => e = .returned (.bool true) ∧ Chg w w' []) := fun w => IsZero_q (m : Int) ra true h w
  obtain ⟨A, hA⟩ : ∃ A, (m : Int) = A := ⟨_, rfl⟩
  rw [hA] at HZ
  rw [hA]
  clear hA ra h
  have F0 : Blk ((w.alloc (.cells (feC A) 24)).alloc (.cells z32 24)) w.heap.size (feC A) 24 := (Blk.new w (feC A) 24).alloc _
  have F1 : Blk ((w.alloc (.cells (feC A) 24)).alloc (.cells z32 24)) (w.heap.size + 1) z32 24 := by have h := Blk.new (w.alloc (.cells (feC A) 24)) z32 24; simpa using h
  have CC : Chg w ((w.alloc (.cells (feC A) 24)).alloc (.cells z32 24)) [] := ((Chg.refl w []).alloc _).alloc _
  go_enter Try.func36, Try.ntmps36
  go_wp2_with (refine wpList_load_row rfl 24 _ rfl w.heap.size rfl 24 _ (0, 0) _ F0 Try.underlying24 rfl feInfo ?_)
  refine (HZ.out _).mono ?_
  rintro e y ⟨rfl, k⟩
  replace F1 := F1.chg k (by simp)
  replace CC := CC.trans1 k
  clear k
  go_wp2_with (first | (refine wpList_store_row rfl 24 _ _ rfl (w.heap.size + 1) _ rfl rfl 24 _ F1 feInfo rfl (feC_one _) ?_) | (refine gl_build (by rfl) 24 #[] rfl (feC 0) (by kernel_rfl) ?_))
  exact bodyPost_ret (results_cell_tmp Try.results36 _ _ (w.heap.size + 1) 24 (feC 0) _ _ rfl rfl (Blk.setRow F1 _) Try.underlying24 rfl feInfo) rfl ⟨rfl, CC.setRowNew (by omega) _⟩

theorem catR_one (f : Nat → Nat) (i : Nat) : ∀ j, j < i + 1 → catR (fun j => feL (iv ((f j : Nat) : Int))) i (fun _ => feL (iv ((f i : Nat) : Int))) j = feL (iv ((f j : Nat) : Int)) := fun j hj => by
  unfold catR
  by_cases h : j < i
  · rw [if_pos h]
  · rw [if_neg h, show j = i by omega]
theorem OwnR.cong {w : World} {base : Nat} {T : TypeId} {s : Nat} {v : Value} {n : Nat} {F G : Nat → List Value} (h : OwnR w base T s v n F) (e : ∀ j, j < n → F j = G j) : OwnR w base T s v n G := by
  refine ⟨?_, fun i hi => by rw [← e i hi]; exact h.2 i hi⟩
  rw [← rL_congr e]
  exact h.1
theorem ownR_ge {w : World} {base : Nat} {T : TypeId} {s : Nat} {v : Value} {n : Nat} {F : Nat → List Value} (h : OwnR w base T s v n F) : ∀ k ∈ ob v, base ≤ k ∧ k < w.heap.size := fun k hk =>
  h.1.lt k (by unfold ob at hk; cases hq : v.ownBlock with
    | none => rw [hq] at hk; simp at hk
    | some x => rw [hq] at hk; simp at hk; rw [hk])
theorem fill_fe (X : Int) : Instr.fill (fun i => some (i * 32, 32)) ((Array.range (1 * 32)).map ((Value.agg z32).cells[· % (Value.agg z32).cells.size]!)) [(0, fe X)] = some (feC X) := by kernel_rfl
/-- A slice of one number made. -/
theorem build_fe {w : World} {ops : Array Oper} {rest : List Oper} {op : Oper} {a : Act} {Q : Exit → Act → World → Prop} (hg : op.guard = none) (x : Operand) (ho : op.op = .buildSlice 60 1 #[(0, x)]) (X : Int) (hx : a.eval x = fe X)
    (h : wpList Try.prog ops Q rest (a.put op.dst (.slice (some ⟨w.heap.size, 0, none⟩) 1 1)) (w.alloc (.cells (feC X) 24))) : wpList Try.prog ops Q (op :: rest) a w := by
  obtain ⟨inf, hinf, hz, hs1, hs2⟩ := scRow
  refine wpList_buildSlice hg 60 24 1 #[(0, x)] ho (feC X) inf (.agg z32) Try.underlying60 hinf hz (by rw [hs1]; decide) (by rw [hs1]; decide) ?_ h
  rw [hs1]
  simp only [List.map_toArray, List.map_cons, List.map_nil, hx]
  exact fill_fe X
theorem rl_one {w : World} {b : Nat} {X : Int} {T : TypeId} (h : Blk w b (feC X) T) : Rl w 32 (.slice (some ⟨b, 0, none⟩) 1 1) 1 (fun _ => feL X) := by
  refine ⟨fun _ _ => feL_ok X, Or.inr ⟨b, 0, 1, rfl, Nat.le_refl _, by decide, h.lt, fun j hj => ?_⟩⟩
  obtain rfl : j = 0 := by omega
  intro q u hu
  rw [h.cell]
  simpa using hu
theorem cn_dec (n : Nat) : eqn (cn (n : Int)) 0 = decide (LN ∣ n) := zero_dec n
/-- What InvertAll answers: the place of the first that has none; or the inverses, in a list of its own. -/
def RvP (f : Nat → Nat) (N : Nat) (w : World) (e : Ending) (w' : World) : Prop :=
  (∃ k, k < N ∧ LN ∣ f k ∧ (∀ j, j < k → ¬ LN ∣ f j) ∧ e = .returned (.tuple #[.slice none 0 0, .int .i64 9, .int .i64 (k : Int)])) ∨
  ((∀ j, j < N → ¬ LN ∣ f j) ∧ ∃ r, e = .returned (.tuple #[r, .int .i64 0, .int .i64 0]) ∧ OwnR w' w.heap.size 24 32 r N (fun j => feL (iv ((f j : Nat) : Int))))
set_option maxHeartbeats 8000000 in
set_option maxRecDepth 100000 in
theorem InvertAll_r (v : Value) (N : Nat) (f : Nat → Nat) (hN : N ≤ 4398046511000) (w : World) (hL : Ls w v N f) :
    Calls Try.prog 39 #[v] w fun e w' => RvP f N w e w' ∧ Chg w w' [] := by
  obtain ⟨p, cp, rfl, hp⟩ := hL.form
  have HN : Hid (N ≤ 4398046511000) := hN
  have HP : Hid (∀ (i : Nat), i < N → ∃ g o, p = some ⟨g, o, none⟩ ∧ g < w.heap.size ∧ Fc w g (o + i * 32) ((f i : Nat) : Int)) := hp
  have HB : Hid (∀ i, i < N → f i < 115792089237316195423570985008687907853269984665640564039457584007913129639936) := hL.1
  obtain ⟨inf, hinf, hz, hs1, hs2⟩ := scRow
  clear hp hL hN
  go_enter Try.func39, Try.ntmps39
  go_wp2_with fail
  go_loopw [6] (fun t wr => ∃ i : Nat, i ≤ N ∧ t = .int .i64 (i : Int) ∧ (∀ j, j < i → ¬ LN ∣ f j) ∧ Chg w wr []) (fun t _ => (N - intOf t).toNat)
  case atStart => exact ⟨0, Nat.zero_le _, rfl, fun j hj => by omega, Chg.refl _ _⟩
  case round =>
    obtain ⟨i, hi, rfl, hnz, C⟩ := hrel
    by_cases h : i < N
    · have hI : (i : Int) < (N : Int) := by omega
      have hI0 : (0 : Int) ≤ (i : Int) := by omega
      have e1 : IntKind.i64.wrap ((i : Int) + 1) = (i : Int) + 1 := by have := HN.out; rw [IntKind.wrap_i64]; omega
      have HM : Hid _ := mN N i h
      have HI : Hid (i < N) := h
      have HNZ : Hid (∀ j, j < i → ¬ LN ∣ f j) := hnz
      obtain ⟨g, o, rfl, hg, hF⟩ := HP.out i h
      have HR : Hid (wr.rangeAt g (o + i * 32) (feL ((f i : Nat) : Int))) := (hF.chg C (by simp)).range'
      have ra : R256 ((f i : Nat) : Int) := by have := HB.out i h; exact ⟨by omega, by omega⟩
      have HZ : Hid (∀ w, Calls Try.prog 32 #[fe ((f i : Nat) : Int)] w fun e w' => e = .returned (.bool (decide (LN ∣ f i))) ∧ Chg w w' []) := fun w => IsZero_q _ ra _ (cn_dec (f i)) w
      obtain ⟨A, hA⟩ : ∃ A, ((f i : Nat) : Int) = A := ⟨_, rfl⟩
      rw [hA] at HR HZ
      clear hi h hg hF HP HB hnz ra hA
      go_wp2_with (with_reducible refine load_fe ?_ (.tmp 18) ?_ g (o + i * 32) A ?_ ?_ ?_
                   · rfl
                   · rfl
                   · rfl
                   · exact HR.out)
      refine (HZ.out _).mono ?_
      rintro e w1 ⟨rfl, k⟩
      replace C := C.trans1 k
      clear k HR HZ
      by_cases hz : LN ∣ f i
      · rw [decide_eq_true hz]
        have HZ : Hid (LN ∣ f i) := hz
        clear hz
        go_wp2_with fail
        go_ret3
        exact ⟨Or.inl ⟨i, HI.out, HZ.out, HNZ.out, rfl⟩, C⟩
      · rw [decide_eq_false hz]
        have HNZ2 : Hid (∀ j, j < i + 1 → ¬ LN ∣ f j) := fun j hj => by
          rcases Nat.lt_or_ge j i with h | h
          · exact HNZ.out j h
          · rw [show j = i by omega]; exact hz
        clear hz HNZ
        go_wp2_with fail
        exact ⟨⟨i + 1, HI.out, by go_num, HNZ2.out, C⟩, HM.out⟩
    · obtain rfl : i = N := by omega
      have hI : ¬ (i : Int) < (i : Int) := by omega
      have HNZ : Hid (∀ j, j < i → ¬ LN ∣ f j) := hnz
      clear h hi hnz
      go_wp2_with fail
      go_loopw [7, 5] (fun t ta wr => ∃ q : Nat, q ≤ i ∧ t = .int .i64 (q : Int) ∧ OwnR wr w.heap.size 24 32 ta q (fun j => feL (iv ((f j : Nat) : Int))) ∧ Chg w wr []) (fun t _ _ => (i - intOf t).toNat)
      case atStart => exact ⟨0, Nat.zero_le _, rfl, OwnR.nil _ _ _ _ _, C⟩
      case round =>
        clear C
        obtain ⟨q, hq, rfl, OA, C⟩ := hrel
        by_cases h : q < i
        · have hI : (q : Int) < (i : Int) := by omega
          have hI0 : (0 : Int) ≤ (q : Int) := by omega
          have e1 : IntKind.i64.wrap ((q : Int) + 1) = (q : Int) + 1 := by have := HN.out; rw [IntKind.wrap_i64]; omega
          have HM : Hid _ := mN i q h
          have HI : Hid (q < i) := h
          obtain ⟨g, o, rfl, hg, hF⟩ := HP.out q h
          have HR : Hid (wr.rangeAt g (o + q * 32) (feL ((f q : Nat) : Int))) := (hF.chg C (by simp)).range'
          have HV : Hid (∀ w, Calls Try.prog 36 #[fe ((f q : Nat) : Int)] w fun e w' => e = .returned (.tuple #[fe (iv ((f q : Nat) : Int)), .int .i64 0]) ∧ Chg w w' []) := fun w => Invert_rnot (f q) (HB.out q h) (by rw [cn_dec]; exact decide_eq_false (HNZ.out q h)) w
          have HCR : Hid (∀ j, j < q + 1 → catR (fun j => feL (iv ((f j : Nat) : Int))) q (fun _ => feL (iv ((f q : Nat) : Int))) j = feL (iv ((f j : Nat) : Int))) := catR_one f q
          obtain ⟨A, hA⟩ : ∃ A, ((f q : Nat) : Int) = A := ⟨_, rfl⟩
          obtain ⟨X, hX⟩ : ∃ X, iv A = X := ⟨_, rfl⟩
          rw [hA, hX] at HV
          rw [hA, hX] at HCR
          rw [hA] at HR
          clear hq h hg hF HP HB hA hX
          go_wp2_with (with_reducible refine load_fe ?_ (.tmp 31) ?_ g (o + q * 32) A ?_ ?_ ?_
                       · rfl
                       · rfl
                       · rfl
                       · exact HR.out)
          refine (HV.out _).mono ?_
          rintro e w1 ⟨rfl, k⟩
          replace OA := OA.chg k (by simp)
          replace C := C.trans1 k
          clear k HR HV
          have KS : Chg w1 ((w1.alloc (.cells z32 24)).setRow w1.heap.size (feC X)) [] := ((Chg.refl w1 []).alloc (.cells z32 24)).setRowNew (Nat.le_refl _) _
          have BX := Blk.new w1 z32 24
          have HBX2 : Hid (Blk ((w1.alloc (.cells z32 24)).setRow w1.heap.size (feC X)) w1.heap.size (feC X) 24) := BX.setRow (feC X)
          replace OA := OA.chg KS (by simp)
          replace C := C.trans1 KS
          clear KS
          have HRl : Hid (∀ W : World, Rl (W.alloc (.cells (feC X) 24)) 32 (.slice (some ⟨W.heap.size, 0, none⟩) 1 1) 1 (fun _ => feL X)) := fun W => rl_one (Blk.new W _ _)
          have HBY : Hid ((q + 1) * 32 ≤ 140737488355328) := by have := HN.out; have := HI.out; show (q + 1) * 32 ≤ 140737488355328; omega
          have H63 : Hid (q + 1 ≤ 9223372036854775807) := by have := HN.out; have := HI.out; show q + 1 ≤ 9223372036854775807; omega
          have HGE : Hid (∀ k ∈ ob u5, w.heap.size ≤ k) := fun k hk => (ownR_ge OA k hk).1
          have BX2 := HBX2.out
          clear HBX2
          go_wp2_with (first
            | (refine wpList_store_row rfl 24 _ _ rfl w1.heap.size (feC X) rfl rfl 24 _ BX feInfo rfl (feC_one _) ?_
               try (change wpList Try.prog _ _ _ _ ((w1.alloc (.cells z32 24)).setRow w1.heap.size (feC X)))
               clear BX
               generalize ((w1.alloc (.cells z32 24)).setRow w1.heap.size (feC X)) = w2 at *)
            | (with_reducible refine load_b BX2 24 (.tmp 8) Try.underlying24 ?_ ?_ ?_ ?_ ?_ ?_
               · rfl
               · rfl
               · rfl
               · rfl
               · exact feInfo)
            | (with_reducible refine build_fe ?_ (.tmp 37) ?_ X ?_ ?_
               · rfl
               · rfl
               · rfl)
            | (with_reducible refine wpList_append_r ?_ (.tmp 36) (.tmp 38) 60 ?_ 24 inf (.agg z32) 32 32 Try.underlying60 hinf hz hs1 hs2 ?_ ?_ w.heap.size u5 (.slice (some ⟨w2.heap.size, 0, none⟩) 1 1) q 1 (fun j => feL (iv ((f j : Nat) : Int))) (fun _ => feL X) ?_ ?_ (OA.chg ((Chg.refl w2 []).alloc (.cells (feC X) 24)) (by simp)) (HRl.out w2) ?_ HBY.out H63.out (Nat.le_trans C.size ((Chg.refl w2 []).alloc (.cells (feC X) 24)).size) ?_
               · rfl
               · rfl
               · rfl
               · decide
               · rfl
               · rfl
               · decide
               intro ng nc w3 O2 k2 _ _))
          have O3 : OwnR w3 w.heap.size 24 32 (.slice (some ⟨ng, 0, none⟩) (q + 1) nc) (q + 1) (fun j => feL (iv ((f j : Nat) : Int))) := O2.cong HCR.out
          have CA : Chg w (w2.alloc (.cells (feC X) 24)) [] := C.alloc _
          exact ⟨⟨q + 1, HI.out, by go_num, O3, CA.trans k2 (fun k hk => Or.inr (HGE.out k hk))⟩, HM.out⟩
        · obtain rfl : q = i := by omega
          have hI : ¬ (q : Int) < (q : Int) := by omega
          go_wp2_with fail
          go_ret3
          exact ⟨Or.inr ⟨HNZ.out, _, rfl, OA⟩, C⟩

/-- A Given that has nothing. -/
def gNil : Nat → Value := fun _ => .slice none 0 0
theorem zGiven : #[Value.slice none 0 0, .slice none 0 0, .slice none 0 0, .slice none 0 0, .slice none 0 0, .slice none 0 0, .slice none 0 0, .slice none 0 0, .slice none 0 0, .slice none 0 0, .slice none 0 0, .slice none 0 0, .slice none 0 0, .slice none 0 0, .slice none 0 0, .slice none 0 0, .slice none 0 0, .slice none 0 0, .slice none 0 0, .slice none 0 0, .slice none 0 0, .slice none 0 0, .slice none 0 0, .slice none 0 0, .slice none 0 0, .slice none 0 0, .slice none 0 0, .slice none 0 0, .slice none 0 0, .slice none 0 0] = gvC gNil := by kernel_rfl
theorem Gv.none {w : World} {gb base : Nat} {p : Nat} {TG TE T : TypeId} {s : Nat} (h : Blk w gb (gvC gNil) TG) (N : Nat → Nat) (F : Nat → Nat → List Value) : Gv w gb base gNil p TG TE T s 0 N F :=
  ⟨h, [], [], World.ownsRow_nil _ _ _ _, World.ownsRow_nil _ _ _ _, fun x hx => by simp [ob, gNil, Value.ownBlock] at hx, fun j hj => by omega⟩
theorem Gv.ge {w : World} {gb base : Nat} {G : Nat → Value} {p : Nat} {TG TE T : TypeId} {s Kn : Nat} {N : Nat → Nat} {F : Nat → Nat → List Value} (h : Gv w gb base G p TG TE T s Kn N F) (hb : base ≤ gb) : ∀ x, x ∈ gch gb G p → base ≤ x := by
  obtain ⟨vs, us, l1, l2, _⟩ := h.lists
  intro x hx
  rcases List.mem_cons.1 hx with e | hx
  · omega
  · rcases List.mem_append.1 hx with hx | hx
    · exact (l1.lt x (by unfold ob at hx; simpa using hx)).1
    · exact (l2.lt x (by unfold ob at hx; simpa using hx)).1
/-- The copy that is handed in, as a list. -/
theorem copy_ls {w : World} {o n m : Nat} {f : Nat → Nat} {mk : Nat → List Value} (h : Blk w o (rL 32 m (gvR mk (fR f) n)).toArray 24) (hmk : ∀ i, (mk i).length = 32 ∧ ∀ v ∈ mk i, v.oneCell' = true) (hn : n ≤ m) (hm : m ≤ 9223372036854775807)
    (hf : ∀ i, i < n → f i < 115792089237316195423570985008687907853269984665640564039457584007913129639936) : Ls w (.slice (some ⟨o, 0, none⟩) n m) n f := by
  refine Rl.ls ⟨fR_ok n f, Or.inr ⟨o, 0, m, rfl, hn, hm, h.lt, fun i hi => ?_⟩⟩ hf
  have q := h.rangeRw (gvR_ok hmk (fR_ok n f) n (Nat.le_refl _)) (show i < m by omega)
  have e : gvR mk (fR f) n i = fR f i := by unfold gvR; rw [if_pos hi]
  rw [e] at q
  rw [Nat.zero_add]
  exact q
/-- What stands in the copies and their twins is numbers. -/
theorem gv_num {n : Nat} {f : Nat → Nat} (hf : ∀ i, i < n → f i < 115792089237316195423570985008687907853269984665640564039457584007913129639936) :
    ∃ h : Nat → Nat, gvR (fR (mkS 987)) (fR f) n = fR h ∧ ∀ i, h i < 115792089237316195423570985008687907853269984665640564039457584007913129639936 := by
  refine ⟨fun i => if i < n then f i else mkS 987 i, ?_, fun i => ?_⟩
  · funext i
    unfold gvR
    by_cases h : i < n
    · rw [if_pos h]; simp only [fR, if_pos h]
    · rw [if_neg h]; simp only [fR, if_neg h]
  · show (if i < n then f i else mkS 987 i) < _
    by_cases h : i < n
    · rw [if_pos h]; exact hf i h
    · rw [if_neg h]; exact mkS_lt _ _

/-- The inverses as numbers. -/
def qv (f : Nat → Nat) : Nat → Nat := fun j => (iv ((f j : Nat) : Int)).toNat
theorem qv_cast (f : Nat → Nat) (j : Nat) : ((qv f j : Nat) : Int) = iv ((f j : Nat) : Int) := Int.toNat_of_nonneg (iv_bd _).1
theorem qv_lt (f : Nat → Nat) (j : Nat) : qv f j < 115792089237316195423570985008687907853269984665640564039457584007913129639936 := by
  have h := (iv_bd ((f j : Nat) : Int)).2
  rw [← qv_cast] at h
  unfold L at h
  omega
theorem fR_qv (f : Nat → Nat) (j : Nat) : fR (qv f) j = feL (iv ((f j : Nat) : Int)) := by show feL _ = _; rw [qv_cast]
theorem Rl.cong {w : World} {s : Nat} {v : Value} {N : Nat} {F G : Nat → List Value} (h : Rl w s v N F) (e : ∀ j, j < N → F j = G j) : Rl w s v N G := by
  refine ⟨fun i hi => by rw [← e i hi]; exact h.1 i hi, ?_⟩
  rcases h.2 with h2 | ⟨g, o, cap, he, h1, h2, h3, h4⟩
  · exact Or.inl h2
  · exact Or.inr ⟨g, o, cap, he, h1, h2, h3, fun i hi => by rw [← e i hi]; exact h4 i hi⟩
theorem inv_ls {w : World} {o N : Nat} {f : Nat → Nat} (h : Blk w o (rL 32 N (ivR f 0)).toArray 24) (hN : N ≤ 9223372036854775807) : Ls w (.slice (some ⟨o, 0, none⟩) N N) N (qv f) := by
  refine Rl.ls (Rl.cong (F := ivR f 0) ⟨ivR_ok f 0 N, Or.inr ⟨o, 0, N, rfl, Nat.le_refl _, hN, h.lt, fun i hi => ?_⟩⟩ (fun j _ => ?_)) (fun j _ => qv_lt f j)
  · rw [Nat.zero_add]
    exact h.rangeRw (ivR_ok f 0 N) hi
  · rw [fR_qv]
    exact if_neg (by omega)
theorem own_ls {w : World} {base N : Nat} {r : Value} {f : Nat → Nat} (h : OwnR w base 24 32 r N (fun j => feL (iv ((f j : Nat) : Int)))) : Ls w r N (qv f) :=
  Rl.ls (h.rl.cong (fun j _ => (fR_qv f j).symm)) (fun j _ => qv_lt f j)
/-- Both Inverts. -/
theorem inv_both (m : Nat) (hm : m < 115792089237316195423570985008687907853269984665640564039457584007913129639936) : ∃ D E : Int, (∀ w, Calls Try.prog 35 #[fe (m : Int)] w fun e w' => e = .returned (.tuple #[fe D, .int .i64 E]) ∧ Chg w w' []) ∧
    (∀ w, Calls Try.prog 36 #[fe (m : Int)] w fun e w' => e = .returned (.tuple #[fe D, .int .i64 E]) ∧ Chg w w' []) := by
  have ra : R256 (m : Int) := ⟨by omega, by omega⟩
  cases h : eqn (cn (m : Int)) 0
  · exact ⟨_, 0, fun w => Invert_o (m : Int) ra h w, fun w => Invert_rnot m hm h w⟩
  · exact ⟨0, 9, fun w => Invert_zero (m : Int) ra h w, fun w => Invert_rzero m hm h w⟩
/-- Both InvertAlls: one list, one error, one place. -/
theorem ls_nil (w : World) (f : Nat → Nat) : Ls w (.slice none 0 0) 0 f := ⟨fun i hi => by omega, Or.inl ⟨rfl, rfl⟩⟩
theorem all_both (N : Nat) (f : Nat → Nat) (hN : N ≤ 4398046511000) : ∃ (M : Nat) (h : Nat → Nat) (E K : Int), M ≤ N ∧ (∀ w v, Ls w v N f → Calls Try.prog 37 #[v] w fun e w' => ∃ r, e = .returned (.tuple #[r, .int .i64 E, .int .i64 K]) ∧ Ls w' r M h ∧ Chg w w' []) ∧
    (∀ w v, Ls w v N f → Calls Try.prog 39 #[v] w fun e w' => ∃ r, e = .returned (.tuple #[r, .int .i64 E, .int .i64 K]) ∧ Ls w' r M h ∧ Chg w w' []) := by
  by_cases hz : ∃ k, k < N ∧ LN ∣ f k ∧ ∀ j, j < k → ¬ LN ∣ f j
  · obtain ⟨k, hk, hd, hj⟩ := hz
    refine ⟨0, f, 9, (k : Int), Nat.zero_le _, fun w v hv => (InvertAll_s v N f (by omega) w hv).mono ?_, fun w v hv => (InvertAll_r v N f hN w hv).mono ?_⟩
    · rintro e w' ⟨h | h, hc⟩
      · obtain ⟨k', hk', hd', hj', rfl⟩ := h
        have : k' = k := by
          rcases Nat.lt_trichotomy k' k with h | h | h
          · exact absurd hd' (hj k' h)
          · exact h
          · exact absurd hd (hj' k h)
        subst this
        exact ⟨_, rfl, ls_nil _ _, hc⟩
      · exact absurd hd (h.1 k hk)
    · rintro e w' ⟨h | h, hc⟩
      · obtain ⟨k', hk', hd', hj', rfl⟩ := h
        have : k' = k := by
          rcases Nat.lt_trichotomy k' k with h | h | h
          · exact absurd hd' (hj k' h)
          · exact h
          · exact absurd hd (hj' k h)
        subst this
        exact ⟨_, rfl, ls_nil _ _, hc⟩
      · exact absurd hd (h.1 k hk)
  · refine ⟨N, qv f, 0, 0, Nat.le_refl _, fun w v hv => (InvertAll_s v N f (by omega) w hv).mono ?_, fun w v hv => (InvertAll_r v N f hN w hv).mono ?_⟩
    · rintro e w' ⟨h | h, hc⟩
      · obtain ⟨k, h1, h2, h3, _⟩ := h
        exact absurd ⟨k, h1, h2, h3⟩ hz
      · obtain ⟨_, o, _, rfl, hb⟩ := h
        exact ⟨_, rfl, inv_ls hb (by omega), hc⟩
    · rintro e w' ⟨h | h, hc⟩
      · obtain ⟨k, h1, h2, h3, _⟩ := h
        exact absurd ⟨k, h1, h2, h3⟩ hz
      · obtain ⟨_, r, rfl, ho⟩ := h
        exact ⟨_, rfl, own_ls ho, hc⟩
set_option maxHeartbeats 16000000 in
set_option maxRecDepth 100000 in
theorem inverts_walk (m : Nat) (hm : m < 115792089237316195423570985008687907853269984665640564039457584007913129639936) (v : Value) (N : Nat) (f : Nat → Nat) (hN : N ≤ 4398046511000) (w : World) (hL : Ls w v N f) :
    Calls Try.prog 5 #[fe (m : Int), v] w fun e w' => e = .returned (.bool true) ∧ Chg w w' [] := by
  have hge := feGuard
  obtain ⟨D, E, hds, hdr⟩ := inv_both m hm
  have HDS : Hid (∀ w, Calls Try.prog 35 #[fe (m : Int)] w fun e w' => e = .returned (.tuple #[fe D, .int .i64 E]) ∧ Chg w w' []) := hds
  have HDR : Hid (∀ w, Calls Try.prog 36 #[fe (m : Int)] w fun e w' => e = .returned (.tuple #[fe D, .int .i64 E]) ∧ Chg w w' []) := hdr
  obtain ⟨M, h, E2, K, hM, has, har⟩ := all_both N f hN
  have HAS : Hid (∀ w v, Ls w v N f → Calls Try.prog 37 #[v] w fun e w' => ∃ r, e = .returned (.tuple #[r, .int .i64 E2, .int .i64 K]) ∧ Ls w' r M h ∧ Chg w w' []) := has
  have HAR : Hid (∀ w v, Ls w v N f → Calls Try.prog 39 #[v] w fun e w' => ∃ r, e = .returned (.tuple #[r, .int .i64 E2, .int .i64 K]) ∧ Ls w' r M h ∧ Chg w w' []) := har
  obtain ⟨A, hA⟩ : ∃ A, (m : Int) = A := ⟨_, rfl⟩
  rw [hA] at HDS HDR
  rw [hA]
  have HN : Hid (N ≤ 4398046511000) := hN
  have HMN : Hid (M ≤ N) := hM
  have hf := hL.1
  have z3 : eqf D D = true := eqf_self _
  have HF : Hid (∀ i, i < N → f i < 115792089237316195423570985008687907853269984665640564039457584007913129639936) := hf
  have F0 : Blk ((w.alloc (.cells (feC A) 24)).alloc (.cells (gvC gNil) 42)) w.heap.size (feC A) 24 := (Blk.new _ _ _).alloc _
  have B0 : Blk ((w.alloc (.cells (feC A) 24)).alloc (.cells (gvC gNil) 42)) (w.heap.size + 1) (gvC gNil) 42 := by have h := Blk.new (w.alloc (.cells (feC A) 24)) (gvC gNil) 42; simpa using h
  have C0 : Chg w ((w.alloc (.cells (feC A) 24)).alloc (.cells (gvC gNil) 42)) [] := ((Chg.refl w []).alloc _).alloc _
  clear hds hdr hN hf hM has har hA
  go_enter Try.func5, Try.ntmps5
  go_wp2_with (first
    | (rw [zGiven]
       generalize ((w.alloc (.cells (feC A) 24)).alloc (.cells (gvC gNil) 42)) = w0 at *
       refine load_b F0 24 (.tmp 2) Try.underlying24 ?_ ?_ ?_ ?_ ?_ ?_
       · rfl
       · rfl
       · rfl
       · rfl
       · exact feInfo))
  obtain ⟨ga, hga⟩ : ∃ b, w.heap.size = b := ⟨_, rfl⟩
  have HGA : Hid (w.heap.size = ga) := hga
  rw [hga] at F0 B0
  rw [hga]
  obtain ⟨gb, hgb⟩ : ∃ b, ga + 1 = b := ⟨_, rfl⟩
  have HGB : Hid (ga + 1 = gb) := hgb
  rw [hgb] at B0
  rw [hgb]
  have G0 : Gv w0 gb gb gNil 8 42 60 24 32 0 (fun _ => 0) (fun _ _ => []) := Gv.none B0 _ _
  have W0 : gb ≤ w0.heap.size := Nat.le_of_lt B0.lt
  clear hga hgb B0
  refine (HDS.out _).mono ?_
  rintro e w1 ⟨rfl, k⟩
  replace F0 := F0.chg k (by simp)
  replace G0 := G0.chg k
  replace C0 := C0.trans1 k
  replace W0 := Nat.le_trans W0 k.size
  clear k
  have BX := Blk.new w1 z32 24
  have KS : Chg w1 ((w1.alloc (.cells z32 24)).setRow w1.heap.size (feC D)) [] := ((Chg.refl w1 []).alloc (.cells z32 24)).setRowNew (Nat.le_refl _) _
  replace F0 := F0.chg KS (by simp)
  replace G0 := G0.chg KS
  replace C0 := C0.trans1 KS
  replace W0 := Nat.le_trans W0 KS.size
  have BX2 := BX.setRow (feC D)
  clear KS
  go_wp2_with (first
    | (refine wpList_store_row rfl 24 _ _ rfl w1.heap.size (feC D) rfl rfl 24 _ BX feInfo rfl (feC_one _) ?_
       try (change wpList Try.prog _ _ _ _ ((w1.alloc (.cells z32 24)).setRow w1.heap.size (feC D)))
       clear BX
       generalize ((w1.alloc (.cells z32 24)).setRow w1.heap.size (feC D)) = w2 at *
       generalize w1.heap.size = gx at *)
    | (with_reducible refine load_b F0 24 (.tmp 2) Try.underlying24 ?_ ?_ ?_ ?_ ?_ ?_
       · rfl
       · rfl
       · rfl
       · rfl
       · exact feInfo))
  refine (HDR.out _).mono ?_
  rintro e w3 ⟨rfl, k⟩
  replace G0 := G0.chg k
  replace C0 := C0.trans1 k
  replace W0 := Nat.le_trans W0 k.size
  replace BX2 := BX2.chg k (by simp)
  clear k F0
  have BY := Blk.new w3 z32 24
  have KS : Chg w3 ((w3.alloc (.cells z32 24)).setRow w3.heap.size (feC D)) [] := ((Chg.refl w3 []).alloc (.cells z32 24)).setRowNew (Nat.le_refl _) _
  replace G0 := G0.chg KS
  replace C0 := C0.trans1 KS
  replace W0 := Nat.le_trans W0 KS.size
  replace BX2 := BX2.chg KS (by simp)
  have BY2 := BY.setRow (feC D)
  clear KS
  go_wp2_with (refine wpList_store_row rfl 24 _ _ rfl w3.heap.size (feC D) rfl rfl 24 _ BY feInfo rfl (feC_one _) ?_)
  try (change Calls Try.prog _ _ ((w3.alloc (.cells z32 24)).setRow w3.heap.size (feC D)) _)
  clear BY
  generalize ((w3.alloc (.cells z32 24)).setRow w3.heap.size (feC D)) = w4 at *
  generalize w3.heap.size = gy at *
  have HR : Hid (Rl w4 32 v N (fR f)) := hL.rl.chg C0 (Off.nil _)
  refine (GivenScalars_s gb N gb 0 v f gNil _ _ w4 (by have := HN.out; omega) (by decide) W0 HR.out G0).mono ?_
  rintro e w5 ⟨r, rfl, o, la, lb, rfl, ho, c1, bo, G1⟩
  have HGE : Hid (∀ x, x ∈ gch gb gNil 8 → gb ≤ x) := G0.ge (Nat.le_refl _)
  have C1 : Chg w w5 [] := C0.trans c1 (fun x hx => Or.inr (by have := HGE.out x hx; have := HGA.out; have := HGB.out; omega))
  have X1 : Ls w5 (.slice (some ⟨o, 0, none⟩) N (N + 3)) N f := copy_ls bo mk_ok (by omega) (by have := HN.out; omega) HF.out
  have X3 := hL.chg C1 (Off.nil _)
  replace BX2 := BX2.chg c1 (G0.off BX2 (by decide) (by decide))
  replace BY2 := BY2.chg c1 (G0.off BY2 (by decide) (by decide))
  obtain ⟨Ga, hGa⟩ : ∃ G, upV (upV gNil 8 la) (8 + 1) lb = G := ⟨_, rfl⟩
  have HGa : Hid (∀ q, q < 30 → ¬ q = 8 → ¬ q = 9 → Ga q = .slice none 0 0) := fun q _ h1 h2 => by rw [← hGa, upV_other _ _ _ _ h2, upV_other _ _ _ _ h1]; rfl
  rw [hGa] at G1
  obtain ⟨m1, hm1⟩ : ∃ m, N + 3 = m := ⟨_, rfl⟩
  rw [hm1] at X1
  rw [hm1]
  clear c1 G0 C0 HR W0 bo ho hGa hm1 hL HGE
  go_wp2_with fail
  refine (HAS.out _ _ X1).mono ?_
  rintro e w6 ⟨r1, rfl, Y1, k⟩
  replace X3 := X3.chg k (Off.nil _)
  replace G1 := G1.chg k
  replace C1 := C1.trans1 k
  replace BX2 := BX2.chg k (by simp)
  replace BY2 := BY2.chg k (by simp)
  clear k X1
  go_wp2_with fail
  refine (HAR.out _ _ X3).mono ?_
  rintro e w7 ⟨r2, rfl, Y2, k⟩
  replace Y1 := Y1.chg k (Off.nil _)
  replace G1 := G1.chg k
  replace C1 := C1.trans1 k
  replace BX2 := BX2.chg k (by simp)
  replace BY2 := BY2.chg k (by simp)
  clear k X3
  go_wp2_with (first
    | (refine gl_load (by rfl) 24 (.tmp 6) rfl gx rfl 24 _ _ BX2 Try.underlying24 rfl feInfo ?_)
    | (refine gl_load (by rfl) 24 (.tmp 8) rfl gy rfl 24 _ _ BY2 Try.underlying24 rfl feInfo ?_))
  refine (num_s E _).mono ?_
  rintro e w8 ⟨rfl, rfl⟩
  go_wp2_with fail
  refine (SameScalars_t _ _ M h (by have := HN.out; have := HMN.out; omega) _ Y1 Y2).mono ?_
  rintro e w9 ⟨rfl, k⟩
  replace G1 := G1.chg k
  replace C1 := C1.trans1 k
  clear k Y1 Y2
  go_wp2_with fail
  refine (num_s E2 _).mono ?_
  rintro e w10 ⟨rfl, rfl⟩
  go_wp2_with fail
  refine (Intact_s gb gb (0 + 1) Ga _ _ _ (by decide) G1 HGa.out ?_ ?_).mono ?_
  · intro j hj
    have h1 := HN.out
    show (if j = 0 then N + 3 else 0) ≤ _
    split <;> omega
  · intro j hj
    obtain ⟨q, hq1, hq2⟩ := gv_num HF.out
    obtain rfl : j = 0 := by omega
    exact ⟨q, by rw [if_pos rfl]; exact hq1, fun i _ => hq2 i⟩
  rintro e w11 ⟨rfl, k⟩
  replace C1 := C1.trans1 k
  clear k
  go_wp2_with fail
  refine (works_true _).mono ?_
  rintro e w12 ⟨rfl, k⟩
  replace C1 := C1.trans1 k
  clear k
  go_wp2_with fail
  go_ret
  exact ⟨rfl, C1⟩
end Go.Proofs.Ytcdgkhejbdlapaa
