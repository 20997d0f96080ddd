/- math/bits: Add64, Sub64, Mul64; step. -/
import Derived.Test.YtoafcaieifjoiaaGreatG
import Derived.Test.YtoafcaieifjoiaaGreatM
import Derived.Lib.Mul64
import Derived.Laws.Externs
import Derived.Shelf.Spec.BitsCarry
set_option linter.unusedVariables false
set_option linter.unusedSimpArgs false
set_option linter.unnecessarySimpa false
namespace Go.Proofs.YtoafcaieifjoiaaGreat
open Go.RowKit N

theorem maskN (a : Nat) (ha : a < 18446744073709551616) : bits .and .u64 (a : Int) 4294967295 = ((a % 4294967296 : Nat) : Int) := by
  have h := bits_and_u64_nat a 4294967295 ha (by omega)
  have e : a &&& 4294967295 = a % 4294967296 := Nat.and_two_pow_sub_one_eq_mod a 32
  rw [e] at h
  exact h
theorem divN (a : Nat) : (a : Int) / 4294967296 = ((a / 4294967296 : Nat) : Int) := by omega
theorem mulN (a b : Nat) : (a : Int) * (b : Int) = ((a * b : Nat) : Int) := (Int.natCast_mul a b).symm
theorem addN (a b : Nat) : (a : Int) + (b : Int) = ((a + b : Nat) : Int) := (Int.natCast_add a b).symm
theorem wrapN (a : Nat) (ha : a < 18446744073709551616) : IntKind.u64.wrap (a : Int) = (a : Int) := by rw [IntKind.wrap_u64]; omega
theorem wrapM (a : Nat) : IntKind.u64.wrap (a : Int) = ((a % 18446744073709551616 : Nat) : Int) := by rw [IntKind.wrap_u64]; omega

set_option maxHeartbeats 1000000 in
theorem mul64_nat (x y : Nat) (hx : x < 18446744073709551616) (hy : y < 18446744073709551616) (w : World) :
    Calls Tryz.prog 163 #[.int .u64 x, .int .u64 y] w fun e w' => e = .returned (.tuple #[.int .u64 ((x * y / 18446744073709551616 : Nat) : Int), .int .u64 ((x * y % 18446744073709551616 : Nat) : Int)]) ∧ w' = w := by
  obtain ⟨bd, bt, bw, hhi⟩ := Lib.mul64_hi x y hx hy
  have ba := Lib.half_mul_le (a := x / 4294967296) (b := y / 4294967296) (by omega) (by omega)
  have bb := Lib.half_mul_le (a := x / 4294967296) (b := y % 4294967296) (by omega) (by omega)
  have bc := Lib.half_mul_le (a := x % 4294967296) (b := y / 4294967296) (by omega) (by omega)
  have ba' : x / 4294967296 * (y / 4294967296) < 18446744073709551616 := by omega
  have bb' : x / 4294967296 * (y % 4294967296) < 18446744073709551616 := by omega
  have bc' : x % 4294967296 * (y / 4294967296) < 18446744073709551616 := by omega
  have bh1 : x / 4294967296 * (y / 4294967296) + (x / 4294967296 * (y % 4294967296) + x % 4294967296 * (y % 4294967296) / 4294967296) / 4294967296 < 18446744073709551616 := by omega
  have bh : x / 4294967296 * (y / 4294967296) + (x / 4294967296 * (y % 4294967296) + x % 4294967296 * (y % 4294967296) / 4294967296) / 4294967296 + ((x / 4294967296 * (y % 4294967296) + x % 4294967296 * (y % 4294967296) / 4294967296) % 4294967296 + x % 4294967296 * (y / 4294967296)) / 4294967296 < 18446744073709551616 := by omega
  go_enter Tryz.func163, Tryz.ntmps163
  go_wp2
  simp only [maskN x hx, maskN y hy, divN, mulN, addN, wrapN _ bd, wrapN _ bb', wrapN _ bt, maskN _ bt, wrapN _ bc', wrapN _ bw, wrapN _ ba', wrapN _ bh1, wrapN _ bh, wrapM (x * y)]
  rw [hhi]
  go_ret2
  exact ⟨rfl, rfl⟩

theorem mul64 (x y : Int) (hx : Wo x) (hy : Wo y) (w : World) :
    Calls Tryz.prog 163 #[.int .u64 x, .int .u64 y] w fun e w' => e = .returned (.tuple #[.int .u64 (x * y / 18446744073709551616), .int .u64 (x * y % 18446744073709551616)]) ∧ w' = w := by
  unfold Wo at hx hy
  obtain ⟨a, rfl⟩ := Int.eq_ofNat_of_zero_le hx.1
  obtain ⟨b, rfl⟩ := Int.eq_ofNat_of_zero_le hy.1
  have h := mul64_nat a b (by omega) (by omega) w
  rw [Int.natCast_ediv, Int.natCast_emod, Int.natCast_mul] at h
  exact h

theorem add64 (x y c s d : Int) (hx : Wo x) (hy : Wo y) (hc : Bi c) (h : x + y + c = s + 18446744073709551616 * d) (hs : Wo s) (w : World) : (callFunc 156 #[.int .u64 x, .int .u64 y, .int .u64 c]).run Tryz.prog w =
    .ok (.value (.tuple #[.int .u64 s, .int .u64 d])) w := by
  unfold Wo Bi at *
  have e1 : s = (x + y + c) % 18446744073709551616 := by omega
  have e2 : d = (x + y + c) / 18446744073709551616 := by omega
  rw [e1, e2]
  obtain ⟨x, rfl⟩ := Int.eq_ofNat_of_zero_le hx.1
  obtain ⟨y, rfl⟩ := Int.eq_ofNat_of_zero_le hy.1
  obtain ⟨c, rfl⟩ := Int.eq_ofNat_of_zero_le hc.1
  rw [run_callFunc_extern Tryz.func156 (by kernel_rfl) (by kernel_rfl) (by kernel_rfl) (e := add64Entry) (by kernel_rfl), run_add64 x y c (by omega) (by omega) (by omega) (by omega)]
  simp only [Result.andThen]
theorem sub64 (x y c s d : Int) (hx : Wo x) (hy : Wo y) (hc : Bi c) (h : x - y - c = s - 18446744073709551616 * d) (hs : Wo s) (hd : Bi d) (w : World) : (callFunc 133 #[.int .u64 x, .int .u64 y, .int .u64 c]).run Tryz.prog w =
    .ok (.value (.tuple #[.int .u64 s, .int .u64 d])) w := by
  unfold Wo Bi at *
  obtain ⟨x, rfl⟩ := Int.eq_ofNat_of_zero_le hx.1
  obtain ⟨y, rfl⟩ := Int.eq_ofNat_of_zero_le hy.1
  obtain ⟨c, rfl⟩ := Int.eq_ofNat_of_zero_le hc.1
  have e1 : s = ((x + 18446744073709551616 - y - c) % 18446744073709551616 : Nat) := by omega
  have e2 : d = ((if x < y + c then 1 else 0 : Nat) : Int) := by split <;> omega
  rw [e1, e2]
  rw [run_callFunc_extern Tryz.func133 (by kernel_rfl) (by kernel_rfl) (by kernel_rfl) (e := sub64Entry) (by kernel_rfl), run_sub64 x y c (by omega)]
  rfl
theorem wo0 : Wo 0 := by unfold Wo; omega
theorem bi0 : Bi 0 := by unfold Bi; omega

set_option maxHeartbeats 1000000 in
set_option maxRecDepth 100000 in
theorem step_any (x y a b lo hi : Int) (hx : Wo x) (hy : Wo y) (ha : Wo a) (hb : Wo b) (h : x * y + a + b = lo + 18446744073709551616 * hi) (hlo : Wo lo) (hhi : Wo hi) (w : World) :
    Calls Tryz.prog 153 #[.int .u64 x, .int .u64 y, .int .u64 a, .int .u64 b] w fun e w' => e = .returned (.tuple #[.int .u64 hi, .int .u64 lo]) ∧ w' = w := by
  have M := mul64 x y hx hy
  have h0 := Int.mul_nonneg hx.1 hy.1
  have h1 := Int.mul_le_mul (show x ≤ 18446744073709551615 by unfold Wo at hx; omega) (show y ≤ 18446744073709551615 by unfold Wo at hy; omega) hy.1 (by decide)
  generalize x * y = p at *
  obtain ⟨s, d, e1, hs, hd⟩ := addx (p % 18446744073709551616) a 0 (by unfold Wo; omega) ha bi0
  obtain ⟨s', d', e1', hs', hd'⟩ := addx (p / 18446744073709551616) 0 d (by unfold Wo; omega) wo0 hd
  obtain ⟨t, f, e2, ht, hf⟩ := addx s b 0 hs hb bi0
  obtain ⟨t', f', e2', ht', hf'⟩ := addx s' 0 f hs' wo0 hf
  have A1 := add64 _ _ _ s d (by unfold Wo; omega) ha bi0 e1 hs
  have A2 := add64 _ _ _ s' d' (by unfold Wo; omega) wo0 hd e1' hs'
  have A3 := add64 _ _ _ t f hs hb bi0 e2 ht
  have A4 := add64 _ _ _ t' f' hs' wo0 hf e2' ht'
  have r1 : hi = t' := by unfold Wo Bi at *; omega
  have r2 : lo = t := by unfold Wo Bi at *; omega
  rw [r1, r2]
  clear e1 e1' e2 e2' h r1 r2 h0 h1
  go_enter Tryz.func153, Tryz.ntmps153
  go_wp2_with (first | (go_at_call 163; refine (M _).mono ?_; rintro e w' ⟨rfl, rfl⟩) | simp only [A1] | simp only [A2] | simp only [A3] | simp only [A4])
  go_ret2
  exact ⟨rfl, rfl⟩
end Go.Proofs.YtoafcaieifjoiaaGreat
