/- Joined: M, E64, AddSub. -/
import Derived.Test.YthpfdnkcepfbaaaDoorG
import Derived.Lib.Mul64
import Derived.Laws.Externs
import Derived.Shelf.Spec.BitsCarry
/- Plain arithmetic of words of 64 bits modulo the group's order. No Go in sight. -/
set_option linter.unusedVariables false
set_option linter.unusedSimpArgs false
set_option linter.unnecessarySimpa false
namespace Go.Proofs.YthpfdnkcepfbaaaDoor
namespace N

/-- The group's order. -/
def L : Int := 7237005577332262213973186563042994240857116359379907606001950938285454250989
/-- A word. -/
def Wo (x : Int) : Prop := 0 ≤ x ∧ x < 18446744073709551616
/-- A bit. -/
def Bi (x : Int) : Prop := 0 ≤ x ∧ x ≤ 1
/-- A number modulo the order. -/
def RL (n : Int) : Prop := 0 ≤ n ∧ n < 7237005577332262213973186563042994240857116359379907606001950938285454250989
theorem rl_mod (n : Int) : RL (n % L) := by
  have h1 := Int.emod_nonneg n (show L ≠ 0 by decide)
  have h2 := Int.emod_lt_of_pos n (show 0 < L by decide)
  unfold RL L at *
  omega
theorem rl_eq {n : Int} (h : RL n) : n % L = n := by
  unfold RL at h; unfold L; omega
theorem addx (x y c : Int) (hx : Wo x) (hy : Wo y) (hc : Bi c) : ∃ s d, x + y + c = s + 18446744073709551616 * d ∧ Wo s ∧ Bi d := by
  unfold Wo Bi at *
  exact ⟨(x + y + c) % 18446744073709551616, (x + y + c) / 18446744073709551616, by omega, by omega, by omega⟩
theorem subx (x y c : Int) (hx : Wo x) (hy : Wo y) (hc : Bi c) : ∃ s d, x - y - c = s - 18446744073709551616 * d ∧ Wo s ∧ Bi d := by
  unfold Wo Bi at *
  exact ⟨(x - y - c) % 18446744073709551616, -((x - y - c) / 18446744073709551616), by omega, by omega, by omega⟩
theorem stepx (x y a b : Int) (hx : Wo x) (hy : Wo y) (ha : Wo a) (hb : Wo b) : ∃ lo hi, x * y + a + b = lo + 18446744073709551616 * hi ∧ Wo lo ∧ Wo hi := by
  unfold Wo at *
  have h0 := Int.mul_nonneg hx.1 hy.1
  have h1 := Int.mul_le_mul (show x ≤ 18446744073709551615 by omega) (show y ≤ 18446744073709551615 by omega) hy.1 (by decide)
  generalize x * y = p at *
  exact ⟨(p + a + b) % 18446744073709551616, (p + a + b) / 18446744073709551616, by omega, by omega, by omega⟩

/-- Word number 0 .. 7 of n. -/
def wrd (n : Int) (i : Nat) : Int := n / 18446744073709551616 ^ i % 18446744073709551616
theorem wrd_wo (n : Int) (i : Nat) : Wo (wrd n i) := by unfold Wo wrd; omega
theorem wrd0 (n : Int) : wrd n 0 = n % 18446744073709551616 := by simp [wrd]
theorem wrd1 (n : Int) : wrd n 1 = n / 18446744073709551616 % 18446744073709551616 := by simp [wrd]
theorem wrd2 (n : Int) : wrd n 2 = n / 340282366920938463463374607431768211456 % 18446744073709551616 := by simp [wrd]
theorem wrd3 (n : Int) : wrd n 3 = n / 6277101735386680763835789423207666416102355444464034512896 % 18446744073709551616 := by simp [wrd]
theorem wrd4 (n : Int) : wrd n 4 = n / 115792089237316195423570985008687907853269984665640564039457584007913129639936 % 18446744073709551616 := by simp [wrd]
theorem wrd5 (n : Int) : wrd n 5 = n / 2135987035920910082395021706169552114602704522356652769947041607822219725780640550022962086936576 % 18446744073709551616 := by simp [wrd]
theorem wrd6 (n : Int) : wrd n 6 = n / 39402006196394479212279040100143613805079739270465446667948293404245721771497210611414266254884915640806627990306816 % 18446744073709551616 := by simp [wrd]
theorem wrd7 (n : Int) : wrd n 7 = n / 726838724295606890549323807888004534353641360687318060281490199180639288113397923326191050713763565560762521606266177933534601628614656 % 18446744073709551616 := by simp [wrd]
theorem wrd_sum (n : Int) (h0 : 0 ≤ n) (h1 : n < 115792089237316195423570985008687907853269984665640564039457584007913129639936) :
    wrd n 0 + wrd n 1 * 18446744073709551616 + wrd n 2 * 340282366920938463463374607431768211456 + wrd n 3 * 6277101735386680763835789423207666416102355444464034512896 = n := by
  rw [wrd0, wrd1, wrd2, wrd3]; omega
theorem wrd_sum8 (n : Int) (h0 : 0 ≤ n) (h1 : n < 13407807929942597099574024998205846127479365820592393377723561443721764030073546976801874298166903427690031858186486050853753882811946569946433649006084096) :
    wrd n 0 + wrd n 1 * 18446744073709551616 + wrd n 2 * 340282366920938463463374607431768211456 + wrd n 3 * 6277101735386680763835789423207666416102355444464034512896 + wrd n 4 * 115792089237316195423570985008687907853269984665640564039457584007913129639936 + wrd n 5 * 2135987035920910082395021706169552114602704522356652769947041607822219725780640550022962086936576 + wrd n 6 * 39402006196394479212279040100143613805079739270465446667948293404245721771497210611414266254884915640806627990306816 + wrd n 7 * 726838724295606890549323807888004534353641360687318060281490199180639288113397923326191050713763565560762521606266177933534601628614656 = n := by
  rw [wrd0, wrd1, wrd2, wrd3, wrd4, wrd5, wrd6, wrd7]; omega
/-- Words that sum up to n are its words. -/
theorem wrd_is (n a b c d : Int) (ha : Wo a) (hb : Wo b) (hc : Wo c) (hd : Wo d) (h : a + b * 18446744073709551616 + c * 340282366920938463463374607431768211456 + d * 6277101735386680763835789423207666416102355444464034512896 = n) : a = wrd n 0 ∧ b = wrd n 1 ∧ c = wrd n 2 ∧ d = wrd n 3 := by
  unfold Wo at *
  rw [wrd0, wrd1, wrd2, wrd3]
  refine ⟨?_, ?_, ?_, ?_⟩ <;> omega
theorem wrd_is8 (n a b c d e f g k : Int) (ha : Wo a) (hb : Wo b) (hc : Wo c) (hd : Wo d) (he : Wo e) (hf : Wo f) (hg : Wo g) (hk : Wo k)
    (h : a + b * 18446744073709551616 + c * 340282366920938463463374607431768211456 + d * 6277101735386680763835789423207666416102355444464034512896 + e * 115792089237316195423570985008687907853269984665640564039457584007913129639936 + f * 2135987035920910082395021706169552114602704522356652769947041607822219725780640550022962086936576 + g * 39402006196394479212279040100143613805079739270465446667948293404245721771497210611414266254884915640806627990306816 + k * 726838724295606890549323807888004534353641360687318060281490199180639288113397923326191050713763565560762521606266177933534601628614656 = n) :
    a = wrd n 0 ∧ b = wrd n 1 ∧ c = wrd n 2 ∧ d = wrd n 3 ∧ e = wrd n 4 ∧ f = wrd n 5 ∧ g = wrd n 6 ∧ k = wrd n 7 := by
  unfold Wo at *
  rw [wrd0, wrd1, wrd2, wrd3, wrd4, wrd5, wrd6, wrd7]
  refine ⟨?_, ?_, ?_, ?_, ?_, ?_, ?_, ?_⟩ <;> omega
/-- A difference that borrowed is put right by the order. -/
theorem above_val (v b w0 w1 w2 w3 z0 z1 z2 z3 c0 c1 c2 c3 : Int) (hv : w0 + w1 * 18446744073709551616 + w2 * 340282366920938463463374607431768211456 + w3 * 6277101735386680763835789423207666416102355444464034512896 = v + b * 115792089237316195423570985008687907853269984665640564039457584007913129639936)
    (hb : Bi b) (hz0 : Wo z0) (hz1 : Wo z1) (hz2 : Wo z2) (hz3 : Wo z3) (hc : Bi c3)
    (h0 : w0 + 6346243789798364141 * b + 0 = z0 + 18446744073709551616 * c0) (h1 : w1 + 1503914060200516822 * b + c0 = z1 + 18446744073709551616 * c1) (h2 : w2 + 0 + c1 = z2 + 18446744073709551616 * c2) (h3 : w3 + 1152921504606846976 * b + c2 = z3 + 18446744073709551616 * c3)
    (hr0 : 0 ≤ v + b * 7237005577332262213973186563042994240857116359379907606001950938285454250989) (hr1 : v + b * 7237005577332262213973186563042994240857116359379907606001950938285454250989 < 115792089237316195423570985008687907853269984665640564039457584007913129639936) :
    z0 + z1 * 18446744073709551616 + z2 * 340282366920938463463374607431768211456 + z3 * 6277101735386680763835789423207666416102355444464034512896 = v + b * 7237005577332262213973186563042994240857116359379907606001950938285454250989 := by
  unfold Wo Bi at *
  omega
end N
end Go.Proofs.YthpfdnkcepfbaaaDoor

/- math/bits: Add64, Sub64, Mul64; step. -/
namespace Go.Proofs.YthpfdnkcepfbaaaDoor
open Go.RowKit N

theorem maskN (a : Nat) (ha : a < 18446744073709551616) : bits .and .u64 (a : Int) 4294967295 = ((a % 4294967296 : Nat) : Int) := by
  have h := bits_and_u64_nat a 4294967295 ha (by omega)
  have e : a &&& 4294967295 = a % 4294967296 := Nat.and_two_pow_sub_one_eq_mod a 32
  rw [e] at h
  exact h
theorem divN (a : Nat) : (a : Int) / 4294967296 = ((a / 4294967296 : Nat) : Int) := by omega
theorem mulN (a b : Nat) : (a : Int) * (b : Int) = ((a * b : Nat) : Int) := (Int.natCast_mul a b).symm
theorem addN (a b : Nat) : (a : Int) + (b : Int) = ((a + b : Nat) : Int) := (Int.natCast_add a b).symm
theorem wrapN (a : Nat) (ha : a < 18446744073709551616) : IntKind.u64.wrap (a : Int) = (a : Int) := by rw [IntKind.wrap_u64]; omega
theorem wrapM (a : Nat) : IntKind.u64.wrap (a : Int) = ((a % 18446744073709551616 : Nat) : Int) := by rw [IntKind.wrap_u64]; omega

set_option maxHeartbeats 1000000 in
theorem mul64_nat (x y : Nat) (hx : x < 18446744073709551616) (hy : y < 18446744073709551616) (w : World) :
    Calls Tryd.prog 160 #[.int .u64 x, .int .u64 y] w fun e w' => e = .returned (.tuple #[.int .u64 ((x * y / 18446744073709551616 : Nat) : Int), .int .u64 ((x * y % 18446744073709551616 : Nat) : Int)]) ∧ w' = w := by
  obtain ⟨bd, bt, bw, hhi⟩ := Lib.mul64_hi x y hx hy
  have ba := Lib.half_mul_le (a := x / 4294967296) (b := y / 4294967296) (by omega) (by omega)
  have bb := Lib.half_mul_le (a := x / 4294967296) (b := y % 4294967296) (by omega) (by omega)
  have bc := Lib.half_mul_le (a := x % 4294967296) (b := y / 4294967296) (by omega) (by omega)
  have ba' : x / 4294967296 * (y / 4294967296) < 18446744073709551616 := by omega
  have bb' : x / 4294967296 * (y % 4294967296) < 18446744073709551616 := by omega
  have bc' : x % 4294967296 * (y / 4294967296) < 18446744073709551616 := by omega
  have bh1 : x / 4294967296 * (y / 4294967296) + (x / 4294967296 * (y % 4294967296) + x % 4294967296 * (y % 4294967296) / 4294967296) / 4294967296 < 18446744073709551616 := by omega
  have bh : x / 4294967296 * (y / 4294967296) + (x / 4294967296 * (y % 4294967296) + x % 4294967296 * (y % 4294967296) / 4294967296) / 4294967296 + ((x / 4294967296 * (y % 4294967296) + x % 4294967296 * (y % 4294967296) / 4294967296) % 4294967296 + x % 4294967296 * (y / 4294967296)) / 4294967296 < 18446744073709551616 := by omega
  go_enter Tryd.func160, Tryd.ntmps160
  go_wp2
  simp only [maskN x hx, maskN y hy, divN, mulN, addN, wrapN _ bd, wrapN _ bb', wrapN _ bt, maskN _ bt, wrapN _ bc', wrapN _ bw, wrapN _ ba', wrapN _ bh1, wrapN _ bh, wrapM (x * y)]
  rw [hhi]
  go_ret2
  exact ⟨rfl, rfl⟩

theorem mul64 (x y : Int) (hx : Wo x) (hy : Wo y) (w : World) :
    Calls Tryd.prog 160 #[.int .u64 x, .int .u64 y] w fun e w' => e = .returned (.tuple #[.int .u64 (x * y / 18446744073709551616), .int .u64 (x * y % 18446744073709551616)]) ∧ w' = w := by
  unfold Wo at hx hy
  obtain ⟨a, rfl⟩ := Int.eq_ofNat_of_zero_le hx.1
  obtain ⟨b, rfl⟩ := Int.eq_ofNat_of_zero_le hy.1
  have h := mul64_nat a b (by omega) (by omega) w
  rw [Int.natCast_ediv, Int.natCast_emod, Int.natCast_mul] at h
  exact h

theorem add64 (x y c s d : Int) (hx : Wo x) (hy : Wo y) (hc : Bi c) (h : x + y + c = s + 18446744073709551616 * d) (hs : Wo s) (w : World) : (callFunc 161 #[.int .u64 x, .int .u64 y, .int .u64 c]).run Tryd.prog w =
    .ok (.value (.tuple #[.int .u64 s, .int .u64 d])) w := by
  unfold Wo Bi at *
  have e1 : s = (x + y + c) % 18446744073709551616 := by omega
  have e2 : d = (x + y + c) / 18446744073709551616 := by omega
  rw [e1, e2]
  obtain ⟨x, rfl⟩ := Int.eq_ofNat_of_zero_le hx.1
  obtain ⟨y, rfl⟩ := Int.eq_ofNat_of_zero_le hy.1
  obtain ⟨c, rfl⟩ := Int.eq_ofNat_of_zero_le hc.1
  rw [run_callFunc_extern Tryd.func161 (by kernel_rfl) (by kernel_rfl) (by kernel_rfl) (e := add64Entry) (by kernel_rfl), run_add64 x y c (by omega) (by omega) (by omega) (by omega)]
  simp only [Result.andThen]
theorem sub64 (x y c s d : Int) (hx : Wo x) (hy : Wo y) (hc : Bi c) (h : x - y - c = s - 18446744073709551616 * d) (hs : Wo s) (hd : Bi d) (w : World) : (callFunc 157 #[.int .u64 x, .int .u64 y, .int .u64 c]).run Tryd.prog w =
    .ok (.value (.tuple #[.int .u64 s, .int .u64 d])) w := by
  unfold Wo Bi at *
  obtain ⟨x, rfl⟩ := Int.eq_ofNat_of_zero_le hx.1
  obtain ⟨y, rfl⟩ := Int.eq_ofNat_of_zero_le hy.1
  obtain ⟨c, rfl⟩ := Int.eq_ofNat_of_zero_le hc.1
  have e1 : s = ((x + 18446744073709551616 - y - c) % 18446744073709551616 : Nat) := by omega
  have e2 : d = ((if x < y + c then 1 else 0 : Nat) : Int) := by split <;> omega
  rw [e1, e2]
  rw [run_callFunc_extern Tryd.func157 (by kernel_rfl) (by kernel_rfl) (by kernel_rfl) (e := sub64Entry) (by kernel_rfl), run_sub64 x y c (by omega)]
  rfl
theorem wo0 : Wo 0 := by unfold Wo; omega
theorem bi0 : Bi 0 := by unfold Bi; omega

set_option maxHeartbeats 1000000 in
set_option maxRecDepth 100000 in
theorem step_any (x y a b lo hi : Int) (hx : Wo x) (hy : Wo y) (ha : Wo a) (hb : Wo b) (h : x * y + a + b = lo + 18446744073709551616 * hi) (hlo : Wo lo) (hhi : Wo hi) (w : World) :
    Calls Tryd.prog 156 #[.int .u64 x, .int .u64 y, .int .u64 a, .int .u64 b] w fun e w' => e = .returned (.tuple #[.int .u64 hi, .int .u64 lo]) ∧ w' = w := by
  have M := mul64 x y hx hy
  have h0 := Int.mul_nonneg hx.1 hy.1
  have h1 := Int.mul_le_mul (show x ≤ 18446744073709551615 by unfold Wo at hx; omega) (show y ≤ 18446744073709551615 by unfold Wo at hy; omega) hy.1 (by decide)
  generalize x * y = p at *
  obtain ⟨s, d, e1, hs, hd⟩ := addx (p % 18446744073709551616) a 0 (by unfold Wo; omega) ha bi0
  obtain ⟨s', d', e1', hs', hd'⟩ := addx (p / 18446744073709551616) 0 d (by unfold Wo; omega) wo0 hd
  obtain ⟨t, f, e2, ht, hf⟩ := addx s b 0 hs hb bi0
  obtain ⟨t', f', e2', ht', hf'⟩ := addx s' 0 f hs' wo0 hf
  have A1 := add64 _ _ _ s d (by unfold Wo; omega) ha bi0 e1 hs
  have A2 := add64 _ _ _ s' d' (by unfold Wo; omega) wo0 hd e1' hs'
  have A3 := add64 _ _ _ t f hs hb bi0 e2 ht
  have A4 := add64 _ _ _ t' f' hs' wo0 hf e2' ht'
  have r1 : hi = t' := by unfold Wo Bi at *; omega
  have r2 : lo = t := by unfold Wo Bi at *; omega
  rw [r1, r2]
  clear e1 e1' e2 e2' h r1 r2 h0 h1
  go_enter Tryd.func156, Tryd.ntmps156
  go_wp2_with (first | (go_at_call 160; refine (M _).mono ?_; rintro e w' ⟨rfl, rfl⟩) | simp only [A1] | simp only [A2] | simp only [A3] | simp only [A4])
  go_ret2
  exact ⟨rfl, rfl⟩
end Go.Proofs.YthpfdnkcepfbaaaDoor

/- (*number).setAbove, add, sub. -/
namespace Go.Proofs.YthpfdnkcepfbaaaDoor
open Go.RowKit N

/-- The four words of n, as cells. -/
def wd4 (n : Int) : Array Value := #[.int .u64 (wrd n 0), .int .u64 (wrd n 1), .int .u64 (wrd n 2), .int .u64 (wrd n 3)]
/-- n in block b. -/
def NumAt (w : World) (b : Nat) (n : Int) : Prop := Blk w b (wd4 n) 248
/-- Some number in block b. -/
def An (w : World) (b : Nat) : Prop := ∃ x0 x1 x2 x3 : Value, Blk w b #[x0, x1, x2, x3] 248

set_option maxHeartbeats 1000000 in
set_option maxRecDepth 100000 in
theorem setAbove_any (z : Nat) (w0 w1 w2 w3 b v : Int) (h0 : Wo w0) (h1 : Wo w1) (h2 : Wo w2) (h3 : Wo w3) (hb : Bi b)
    (hv : w0 + w1 * 18446744073709551616 + w2 * 340282366920938463463374607431768211456 + w3 * 6277101735386680763835789423207666416102355444464034512896 = v + b * 115792089237316195423570985008687907853269984665640564039457584007913129639936)
    (hr0 : 0 ≤ v + b * 7237005577332262213973186563042994240857116359379907606001950938285454250989) (hr1 : v + b * 7237005577332262213973186563042994240857116359379907606001950938285454250989 < 115792089237316195423570985008687907853269984665640564039457584007913129639936)
    (w : World) (hz : An w z) :
    Calls Tryd.prog 158 #[.pointer (some ⟨z, 0, none⟩), .int .u64 w0, .int .u64 w1, .int .u64 w2, .int .u64 w3, .int .u64 b] w fun e w' => e = .returned (.tuple #[]) ∧ NumAt w' z (v + b * 7237005577332262213973186563042994240857116359379907606001950938285454250989) ∧ w.grownBy w' (some z) := by
  obtain ⟨x0, x1, x2, x3, hz⟩ := hz
  have k0 := hz.cell 0; have k1 := hz.cell 1; have k2 := hz.cell 2; have k3 := hz.cell 3
  have f0 := hz.frozen 0; have f1 := hz.frozen 1; have f2 := hz.frozen 2; have f3 := hz.frozen 3
  simp at k0 k1 k2 k3
  obtain ⟨m, hm, m0, m1, m3⟩ : ∃ m, IntKind.u64.wrap (-b) = m ∧ bits .and .u64 6346243789798364141 m = 6346243789798364141 * b ∧ bits .and .u64 1503914060200516822 m = 1503914060200516822 * b ∧ bits .and .u64 1152921504606846976 m = 1152921504606846976 * b := by
    have : b = 0 ∨ b = 1 := by unfold Bi at hb; omega
    rcases this with rfl | rfl
    · exact ⟨0, by decide, by decide, by decide, by decide⟩
    · exact ⟨18446744073709551615, by decide, by decide, by decide, by decide⟩
  have g0 : Wo (6346243789798364141 * b) := by unfold Bi at hb; unfold Wo; omega
  have g1 : Wo (1503914060200516822 * b) := by unfold Bi at hb; unfold Wo; omega
  have g3 : Wo (1152921504606846976 * b) := by unfold Bi at hb; unfold Wo; omega
  obtain ⟨z0, c0, e0, hz0, hc0⟩ := addx w0 (6346243789798364141 * b) 0 h0 g0 bi0
  obtain ⟨z1, c1, e1, hz1, hc1⟩ := addx w1 (1503914060200516822 * b) c0 h1 g1 hc0
  obtain ⟨z2, c2, e2, hz2, hc2⟩ := addx w2 0 c1 h2 wo0 hc1
  obtain ⟨z3, c3, e3, hz3, hc3⟩ := addx w3 (1152921504606846976 * b) c2 h3 g3 hc2
  have V := above_val v b w0 w1 w2 w3 z0 z1 z2 z3 c0 c1 c2 c3 hv hb hz0 hz1 hz2 hz3 hc3 e0 e1 e2 e3 hr0 hr1
  obtain ⟨q0, q1, q2, q3⟩ := wrd_is _ z0 z1 z2 z3 hz0 hz1 hz2 hz3 V
  have A0 := add64 _ _ _ z0 c0 h0 g0 bi0 e0 hz0
  have A1 := add64 _ _ _ z1 c1 h1 g1 hc0 e1 hz1
  have A2 := add64 _ _ _ z2 c2 h2 wo0 hc1 e2 hz2
  have A3 := add64 _ _ _ z3 c3 h3 g3 hc2 e3 hz3
  unfold NumAt wd4
  rw [← q0, ← q1, ← q2, ← q3]
  clear q0 q1 q2 q3 e0 e1 e2 e3 V hv
  generalize 6346243789798364141 * b = b0 at *
  generalize 1503914060200516822 * b = b1 at *
  generalize 1152921504606846976 * b = b3 at *
  go_enter Tryd.func158, Tryd.ntmps158
  go_wp2_with fail
  go_region
  go_wp2_with fail
  go_region
  go_wp2_with fail
  go_region
  go_wp2_with fail
  go_region
  go_wp2_with fail
  go_end0
  refine ⟨rfl, ?_, ?_⟩
  · exact Blk.to (by (repeat (first | with_reducible assumption | with_reducible exact Blk.new _ _ _ | with_reducible apply Blk.drew | with_reducible apply Blk.drewN | with_reducible apply Blk.setCell | with_reducible apply Blk.alloc))) (by simp)
  · (repeat (first | with_reducible exact gb_refl _ _ | with_reducible assumption | with_reducible apply gb_drew | with_reducible apply gb_drewN | with_reducible apply gb_set | with_reducible apply gb_alloc))

theorem NumAt.an {w : World} {b : Nat} {n : Int} (h : NumAt w b n) : An w b := ⟨_, _, _, _, h⟩
theorem An.lt {w : World} {b : Nat} (h : An w b) : b < w.heap.size := by obtain ⟨_, _, _, _, h⟩ := h; exact Blk.lt h
theorem NumAt.lt {w : World} {b : Nat} {n : Int} (h : NumAt w b n) : b < w.heap.size := Blk.lt h
theorem NumAt.c0 {w : World} {b : Nat} {n : Int} (h : NumAt w b n) : w.cell? ⟨b, 0, none⟩ = some (.int .u64 (wrd n 0)) := Blk.cell h 0
theorem NumAt.c1 {w : World} {b : Nat} {n : Int} (h : NumAt w b n) : w.cell? ⟨b, 1, none⟩ = some (.int .u64 (wrd n 1)) := Blk.cell h 1
theorem NumAt.c2 {w : World} {b : Nat} {n : Int} (h : NumAt w b n) : w.cell? ⟨b, 2, none⟩ = some (.int .u64 (wrd n 2)) := Blk.cell h 2
theorem NumAt.c3 {w : World} {b : Nat} {n : Int} (h : NumAt w b n) : w.cell? ⟨b, 3, none⟩ = some (.int .u64 (wrd n 3)) := Blk.cell h 3
theorem NumAt.chg {w w' : World} {b : Nat} {n : Int} {l : List Nat} (h : NumAt w b n) (hc : Chg w w' l) (hb : ¬ b ∈ l) : NumAt w' b n := Blk.chg h hc hb
theorem An.chg {w w' : World} {b : Nat} {l : List Nat} (h : An w b) (hc : Chg w w' l) (hb : ¬ b ∈ l) : An w' b := by obtain ⟨x0, x1, x2, x3, h⟩ := h; exact ⟨x0, x1, x2, x3, h.chg hc hb⟩
theorem NumAt.alloc {w : World} {b : Nat} {n : Int} (h : NumAt w b n) (o : Obj) : NumAt (w.alloc o) b n := Blk.alloc h o
theorem An.alloc {w : World} {b : Nat} (h : An w b) (o : Obj) : An (w.alloc o) b := by obtain ⟨x0, x1, x2, x3, h⟩ := h; exact ⟨x0, x1, x2, x3, h.alloc o⟩
theorem NumAt.new (w : World) : NumAt (w.alloc (.cells #[.int .u64 0, .int .u64 0, .int .u64 0, .int .u64 0] 248)) w.heap.size 0 := Blk.new w _ _
theorem An.drewN {w : World} {b : Nat} (h : An w b) (n : Nat) : An (w.drewN n) b := h
theorem An.drew {w : World} {b : Nat} (h : An w b) : An w.drew b := h

theorem add_val (n m x0 x1 x2 x3 y0 y1 y2 y3 s0 s1 s2 s3 c0 c1 c2 c3 t0 t1 t2 t3 d0 d1 d2 d3 : Int) (rn : RL n) (rm : RL m)
    (hx : x0 + x1 * 18446744073709551616 + x2 * 340282366920938463463374607431768211456 + x3 * 6277101735386680763835789423207666416102355444464034512896 = n) (hy : y0 + y1 * 18446744073709551616 + y2 * 340282366920938463463374607431768211456 + y3 * 6277101735386680763835789423207666416102355444464034512896 = m)
    (a0 : x0 + y0 + 0 = s0 + 18446744073709551616 * c0) (a1 : x1 + y1 + c0 = s1 + 18446744073709551616 * c1) (a2 : x2 + y2 + c1 = s2 + 18446744073709551616 * c2) (a3 : x3 + y3 + c2 = s3 + 18446744073709551616 * c3)
    (b0 : s0 - 6346243789798364141 - 0 = t0 - 18446744073709551616 * d0) (b1 : s1 - 1503914060200516822 - d0 = t1 - 18446744073709551616 * d1) (b2 : s2 - 0 - d1 = t2 - 18446744073709551616 * d2) (b3 : s3 - 1152921504606846976 - d2 = t3 - 18446744073709551616 * d3)
    (hs0 : Wo s0) (hs1 : Wo s1) (hs2 : Wo s2) (hs3 : Wo s3) (ht0 : Wo t0) (ht1 : Wo t1) (ht2 : Wo t2) (ht3 : Wo t3) (hc : Bi c3) (hd : Bi d3) :
    (t0 + t1 * 18446744073709551616 + t2 * 340282366920938463463374607431768211456 + t3 * 6277101735386680763835789423207666416102355444464034512896 = (n + m - 7237005577332262213973186563042994240857116359379907606001950938285454250989) + d3 * 115792089237316195423570985008687907853269984665640564039457584007913129639936) ∧ ((n + m - 7237005577332262213973186563042994240857116359379907606001950938285454250989) + d3 * 7237005577332262213973186563042994240857116359379907606001950938285454250989 = (n + m) % L) := by
  unfold RL at *; unfold Wo at *; unfold Bi at *; unfold L
  omega

set_option maxHeartbeats 1000000 in
set_option maxRecDepth 100000 in
theorem add_any (z x y : Nat) (n m : Int) (rn : RL n) (rm : RL m) (w : World) (hz : An w z) (hx : NumAt w x n) (hy : NumAt w y m) :
    Calls Tryd.prog 159 #[.pointer (some ⟨z, 0, none⟩), .pointer (some ⟨x, 0, none⟩), .pointer (some ⟨y, 0, none⟩)] w fun e w' => e = .returned (.tuple #[]) ∧ NumAt w' z ((n + m) % L) ∧ w.grownBy w' (some z) := by
  have kx0 := hx.c0; have kx1 := hx.c1; have kx2 := hx.c2; have kx3 := hx.c3
  have ky0 := hy.c0; have ky1 := hy.c1; have ky2 := hy.c2; have ky3 := hy.c3
  have ex := wrd_sum n rn.1 (by unfold RL at rn; omega)
  have ey := wrd_sum m rm.1 (by unfold RL at rm; omega)
  have px0 := wrd_wo n 0; have px1 := wrd_wo n 1; have px2 := wrd_wo n 2; have px3 := wrd_wo n 3
  have py0 := wrd_wo m 0; have py1 := wrd_wo m 1; have py2 := wrd_wo m 2; have py3 := wrd_wo m 3
  generalize wrd n 0 = x0 at *; generalize wrd n 1 = x1 at *; generalize wrd n 2 = x2 at *; generalize wrd n 3 = x3 at *
  generalize wrd m 0 = y0 at *; generalize wrd m 1 = y1 at *; generalize wrd m 2 = y2 at *; generalize wrd m 3 = y3 at *
  have o0 : Wo 6346243789798364141 := by unfold Wo; omega
  have o1 : Wo 1503914060200516822 := by unfold Wo; omega
  have o3 : Wo 1152921504606846976 := by unfold Wo; omega
  obtain ⟨s0, c0, a0, hs0, hc0⟩ := addx x0 y0 0 px0 py0 bi0
  obtain ⟨s1, c1, a1, hs1, hc1⟩ := addx x1 y1 c0 px1 py1 hc0
  obtain ⟨s2, c2, a2, hs2, hc2⟩ := addx x2 y2 c1 px2 py2 hc1
  obtain ⟨s3, c3, a3, hs3, hc3⟩ := addx x3 y3 c2 px3 py3 hc2
  obtain ⟨t0, d0, b0, ht0, hd0⟩ := subx s0 6346243789798364141 0 hs0 o0 bi0
  obtain ⟨t1, d1, b1, ht1, hd1⟩ := subx s1 1503914060200516822 d0 hs1 o1 hd0
  obtain ⟨t2, d2, b2, ht2, hd2⟩ := subx s2 0 d1 hs2 wo0 hd1
  obtain ⟨t3, d3, b3, ht3, hd3⟩ := subx s3 1152921504606846976 d2 hs3 o3 hd2
  have V := add_val n m x0 x1 x2 x3 y0 y1 y2 y3 s0 s1 s2 s3 c0 c1 c2 c3 t0 t1 t2 t3 d0 d1 d2 d3 rn rm ex ey a0 a1 a2 a3 b0 b1 b2 b3 hs0 hs1 hs2 hs3 ht0 ht1 ht2 ht3 hc3 hd3
  have HV : Hid ((t0 + t1 * 18446744073709551616 + t2 * 340282366920938463463374607431768211456 + t3 * 6277101735386680763835789423207666416102355444464034512896 = (n + m - 7237005577332262213973186563042994240857116359379907606001950938285454250989) + d3 * 115792089237316195423570985008687907853269984665640564039457584007913129639936) ∧ ((n + m - 7237005577332262213973186563042994240857116359379907606001950938285454250989) + d3 * 7237005577332262213973186563042994240857116359379907606001950938285454250989 = (n + m) % L)) := V
  have A0 := add64 _ _ _ s0 c0 px0 py0 bi0 a0 hs0
  have A1 := add64 _ _ _ s1 c1 px1 py1 hc0 a1 hs1
  have A2 := add64 _ _ _ s2 c2 px2 py2 hc1 a2 hs2
  have A3 := add64 _ _ _ s3 c3 px3 py3 hc2 a3 hs3
  have B0 := sub64 _ _ _ t0 d0 hs0 o0 bi0 b0 ht0 hd0
  have B1 := sub64 _ _ _ t1 d1 hs1 o1 hd0 b1 ht1 hd1
  have B2 := sub64 _ _ _ t2 d2 hs2 wo0 hd1 b2 ht2 hd2
  have B3 := sub64 _ _ _ t3 d3 hs3 o3 hd2 b3 ht3 hd3
  clear V a0 a1 a2 a3 b0 b1 b2 b3 ex ey
  go_enter Tryd.func159, Tryd.ntmps159
  go_wp2_with fail
  go_region
  go_wp2_with fail
  go_region
  go_wp2_with fail
  go_region
  go_wp2_with fail
  go_region
  go_wp2_with (first | simp only [B0] | simp only [B1] | simp only [B2] | simp only [B3])
  have R := rl_mod (n + m)
  refine (setAbove_any z t0 t1 t2 t3 d3 (n + m - 7237005577332262213973186563042994240857116359379907606001950938285454250989) ht0 ht1 ht2 ht3 hd3 HV.out.1 ?_ ?_ _ ?_).mono ?_
  · rw [HV.out.2]; exact R.1
  · rw [HV.out.2]; unfold RL at R; omega
  · exact hz
  rintro e w' ⟨rfl, hn, hg⟩
  rw [HV.out.2] at hn
  go_wp2_with fail
  go_end0
  exact ⟨rfl, hn, ⟨hg.os, hg.tape, hg.output, hg.size, hg.block⟩⟩
theorem sub_val (n m x0 x1 x2 x3 y0 y1 y2 y3 t0 t1 t2 t3 d0 d1 d2 d3 : Int) (rn : RL n) (rm : RL m)
    (hx : x0 + x1 * 18446744073709551616 + x2 * 340282366920938463463374607431768211456 + x3 * 6277101735386680763835789423207666416102355444464034512896 = n) (hy : y0 + y1 * 18446744073709551616 + y2 * 340282366920938463463374607431768211456 + y3 * 6277101735386680763835789423207666416102355444464034512896 = m)
    (b0 : x0 - y0 - 0 = t0 - 18446744073709551616 * d0) (b1 : x1 - y1 - d0 = t1 - 18446744073709551616 * d1) (b2 : x2 - y2 - d1 = t2 - 18446744073709551616 * d2) (b3 : x3 - y3 - d2 = t3 - 18446744073709551616 * d3)
    (ht0 : Wo t0) (ht1 : Wo t1) (ht2 : Wo t2) (ht3 : Wo t3) (hd : Bi d3) :
    (t0 + t1 * 18446744073709551616 + t2 * 340282366920938463463374607431768211456 + t3 * 6277101735386680763835789423207666416102355444464034512896 = (n - m) + d3 * 115792089237316195423570985008687907853269984665640564039457584007913129639936) ∧ ((n - m) + d3 * 7237005577332262213973186563042994240857116359379907606001950938285454250989 = (n - m) % L) := by
  unfold RL at *; unfold Wo at *; unfold Bi at *; unfold L
  omega
set_option maxHeartbeats 1000000 in
set_option maxRecDepth 100000 in
theorem sub_any (z x y : Nat) (n m : Int) (rn : RL n) (rm : RL m) (w : World) (hz : An w z) (hx : NumAt w x n) (hy : NumAt w y m) :
    Calls Tryd.prog 151 #[.pointer (some ⟨z, 0, none⟩), .pointer (some ⟨x, 0, none⟩), .pointer (some ⟨y, 0, none⟩)] w fun e w' => e = .returned (.tuple #[]) ∧ NumAt w' z ((n - m) % L) ∧ w.grownBy w' (some z) := by
  have kx0 := hx.c0; have kx1 := hx.c1; have kx2 := hx.c2; have kx3 := hx.c3
  have ky0 := hy.c0; have ky1 := hy.c1; have ky2 := hy.c2; have ky3 := hy.c3
  have ex := wrd_sum n rn.1 (by unfold RL at rn; omega)
  have ey := wrd_sum m rm.1 (by unfold RL at rm; omega)
  have px0 := wrd_wo n 0; have px1 := wrd_wo n 1; have px2 := wrd_wo n 2; have px3 := wrd_wo n 3
  have py0 := wrd_wo m 0; have py1 := wrd_wo m 1; have py2 := wrd_wo m 2; have py3 := wrd_wo m 3
  generalize wrd n 0 = x0 at *; generalize wrd n 1 = x1 at *; generalize wrd n 2 = x2 at *; generalize wrd n 3 = x3 at *
  generalize wrd m 0 = y0 at *; generalize wrd m 1 = y1 at *; generalize wrd m 2 = y2 at *; generalize wrd m 3 = y3 at *
  obtain ⟨t0, d0, b0, ht0, hd0⟩ := subx x0 y0 0 px0 py0 bi0
  obtain ⟨t1, d1, b1, ht1, hd1⟩ := subx x1 y1 d0 px1 py1 hd0
  obtain ⟨t2, d2, b2, ht2, hd2⟩ := subx x2 y2 d1 px2 py2 hd1
  obtain ⟨t3, d3, b3, ht3, hd3⟩ := subx x3 y3 d2 px3 py3 hd2
  have V := sub_val n m x0 x1 x2 x3 y0 y1 y2 y3 t0 t1 t2 t3 d0 d1 d2 d3 rn rm ex ey b0 b1 b2 b3 ht0 ht1 ht2 ht3 hd3
  have HV : Hid ((t0 + t1 * 18446744073709551616 + t2 * 340282366920938463463374607431768211456 + t3 * 6277101735386680763835789423207666416102355444464034512896 = (n - m) + d3 * 115792089237316195423570985008687907853269984665640564039457584007913129639936) ∧ ((n - m) + d3 * 7237005577332262213973186563042994240857116359379907606001950938285454250989 = (n - m) % L)) := V
  have B0 := sub64 _ _ _ t0 d0 px0 py0 bi0 b0 ht0 hd0
  have B1 := sub64 _ _ _ t1 d1 px1 py1 hd0 b1 ht1 hd1
  have B2 := sub64 _ _ _ t2 d2 px2 py2 hd1 b2 ht2 hd2
  have B3 := sub64 _ _ _ t3 d3 px3 py3 hd2 b3 ht3 hd3
  clear V b0 b1 b2 b3 ex ey
  go_enter Tryd.func151, Tryd.ntmps151
  go_wp2_with fail
  go_region
  go_wp2_with fail
  go_region
  go_wp2_with fail
  go_region
  go_wp2_with fail
  go_region
  go_wp2_with fail
  have R := rl_mod (n - m)
  refine (setAbove_any z t0 t1 t2 t3 d3 (n - m) ht0 ht1 ht2 ht3 hd3 HV.out.1 ?_ ?_ _ ?_).mono ?_
  · rw [HV.out.2]; exact R.1
  · rw [HV.out.2]; unfold RL at R; omega
  · exact hz
  rintro e w' ⟨rfl, hn, hg⟩
  rw [HV.out.2] at hn
  go_wp2_with fail
  go_end0
  exact ⟨rfl, hn, ⟨hg.os, hg.tape, hg.output, hg.size, hg.block⟩⟩
end Go.Proofs.YthpfdnkcepfbaaaDoor
