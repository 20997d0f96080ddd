/- wide: a sum of products of 128 bits: product, plus, over. -/
import Derived.Test.YtialljmkkichiabBase
import Derived.Lib.Mul64
import Derived.Laws.Externs
set_option linter.unusedVariables false
set_option linter.unusedSimpArgs false
set_option linter.unnecessarySimpa false
namespace Go.Proofs.Ytialljmkkichiab
open Go.RowKit

/-- A number of 128 bits, as a wide. -/
abbrev wd (n : Int) : Value := .agg #[.int .u64 (n / 18446744073709551616), .int .u64 (n % 18446744073709551616)]

theorem maskN (a : Nat) (ha : a < 18446744073709551616) : bits .and .u64 (a : Int) 4294967295 = ((a % 4294967296 : Nat) : Int) := by
  have h := bits_and_u64_nat a 4294967295 ha (by omega)
  have e : a &&& 4294967295 = a % 4294967296 := Nat.and_two_pow_sub_one_eq_mod a 32
  rw [e] at h
  exact h
theorem divN (a : Nat) : (a : Int) / 4294967296 = ((a / 4294967296 : Nat) : Int) := by omega
theorem mulN (a b : Nat) : (a : Int) * (b : Int) = ((a * b : Nat) : Int) := (Int.natCast_mul a b).symm
theorem addN (a b : Nat) : (a : Int) + (b : Int) = ((a + b : Nat) : Int) := (Int.natCast_add a b).symm
theorem wrapN (a : Nat) (ha : a < 18446744073709551616) : IntKind.u64.wrap (a : Int) = (a : Int) := by rw [IntKind.wrap_u64]; omega
theorem wrapM (a : Nat) : IntKind.u64.wrap (a : Int) = ((a % 18446744073709551616 : Nat) : Int) := by rw [IntKind.wrap_u64]; omega

set_option maxHeartbeats 1000000 in
theorem mul64_nat (x y : Nat) (hx : x < 18446744073709551616) (hy : y < 18446744073709551616) (w : World) :
    Calls Try.prog 102 #[.int .u64 x, .int .u64 y] w fun e w' => e = .returned (.tuple #[.int .u64 ((x * y / 18446744073709551616 : Nat) : Int), .int .u64 ((x * y % 18446744073709551616 : Nat) : Int)]) ∧ w' = w := by
  obtain ⟨bd, bt, bw, hhi⟩ := Lib.mul64_hi x y hx hy
  have ba := Lib.half_mul_le (a := x / 4294967296) (b := y / 4294967296) (by omega) (by omega)
  have bb := Lib.half_mul_le (a := x / 4294967296) (b := y % 4294967296) (by omega) (by omega)
  have bc := Lib.half_mul_le (a := x % 4294967296) (b := y / 4294967296) (by omega) (by omega)
  have ba' : x / 4294967296 * (y / 4294967296) < 18446744073709551616 := by omega
  have bb' : x / 4294967296 * (y % 4294967296) < 18446744073709551616 := by omega
  have bc' : x % 4294967296 * (y / 4294967296) < 18446744073709551616 := by omega
  have bh1 : x / 4294967296 * (y / 4294967296) + (x / 4294967296 * (y % 4294967296) + x % 4294967296 * (y % 4294967296) / 4294967296) / 4294967296 < 18446744073709551616 := by omega
  have bh : x / 4294967296 * (y / 4294967296) + (x / 4294967296 * (y % 4294967296) + x % 4294967296 * (y % 4294967296) / 4294967296) / 4294967296 + ((x / 4294967296 * (y % 4294967296) + x % 4294967296 * (y % 4294967296) / 4294967296) % 4294967296 + x % 4294967296 * (y / 4294967296)) / 4294967296 < 18446744073709551616 := by omega
  go_enter Try.func102, Try.ntmps102
  go_wp2
  simp only [maskN x hx, maskN y hy, divN, mulN, addN, wrapN _ bd, wrapN _ bb', wrapN _ bt, maskN _ bt, wrapN _ bc', wrapN _ bw, wrapN _ ba', wrapN _ bh1, wrapN _ bh, wrapM (x * y)]
  rw [hhi]
  go_ret2
  exact ⟨rfl, rfl⟩

theorem mul64 (x y : Int) (hx : 0 ≤ x) (hx1 : x < 18446744073709551616) (hy : 0 ≤ y) (hy1 : y < 18446744073709551616) (w : World) :
    Calls Try.prog 102 #[.int .u64 x, .int .u64 y] w fun e w' => e = .returned (.tuple #[.int .u64 (x * y / 18446744073709551616), .int .u64 (x * y % 18446744073709551616)]) ∧ w' = w := by
  obtain ⟨a, rfl⟩ := Int.eq_ofNat_of_zero_le hx
  obtain ⟨b, rfl⟩ := Int.eq_ofNat_of_zero_le hy
  have h := mul64_nat a b (by omega) (by omega) w
  rw [Int.natCast_ediv, Int.natCast_emod, Int.natCast_mul] at h
  exact h

theorem add64 (x y c : Int) (hx : 0 ≤ x) (hy : 0 ≤ y) (hc0 : 0 ≤ c) (hc : c ≤ 1) (w : World) : (callFunc 103 #[.int .u64 x, .int .u64 y, .int .u64 c]).run Try.prog w =
    .ok (.value (.tuple #[.int .u64 ((x + y + c) % 18446744073709551616), .int .u64 ((x + y + c) / 18446744073709551616)])) w := by
  obtain ⟨x, rfl⟩ := Int.eq_ofNat_of_zero_le hx
  obtain ⟨y, rfl⟩ := Int.eq_ofNat_of_zero_le hy
  obtain ⟨c, rfl⟩ := Int.eq_ofNat_of_zero_le hc0
  rw [run_callFunc_extern Try.func103 (by kernel_rfl) (by kernel_rfl) (by kernel_rfl) (e := add64Entry) (by kernel_rfl), run_add64 x y c (by omega) (by omega) (by omega) (by omega)]
  simp only [Result.andThen]

theorem add64_0 (x y : Int) (hx : 0 ≤ x) (hy : 0 ≤ y) (w : World) : (callFunc 103 #[.int .u64 x, .int .u64 y, .int .u64 0]).run Try.prog w =
    .ok (.value (.tuple #[.int .u64 ((x + y) % 18446744073709551616), .int .u64 ((x + y) / 18446744073709551616)])) w := by
  simpa using add64 x y 0 hx hy (Int.le_refl 0) (by decide) w

set_option maxHeartbeats 1000000 in
theorem product_any (a b : Int) (ha : 0 ≤ a) (ha1 : a < 18446744073709551616) (hb : 0 ≤ b) (hb1 : b < 18446744073709551616) (w : World) :
    Calls Try.prog 74 #[.int .u64 a, .int .u64 b] w fun e w' => e = .returned (wd (a * b)) ∧ w.grownBy w' none := by
  go_enter Try.func74, Try.ntmps74
  go_wp2_with (go_at_call 102; refine (mul64 a b ha ha1 hb hb1 _).mono ?_; rintro e w' ⟨rfl, rfl⟩)
  go_returns
  exact ⟨rfl, by (repeat (first | with_reducible exact gb_refl _ _ | with_reducible assumption | with_reducible apply gb_drew | with_reducible apply gb_drewN | with_reducible apply gb_set | with_reducible apply gb_alloc))⟩

set_option maxHeartbeats 1000000 in
set_option maxRecDepth 100000 in
theorem plus_any (n a b : Int) (hn : 0 ≤ n) (ha : 0 ≤ a) (ha1 : a < 18446744073709551616) (hb : 0 ≤ b) (hb1 : b < 18446744073709551616) (hs : n + a * b < 340282366920938463463374607431768211456) (w : World) :
    Calls Try.prog 75 #[wd n, .int .u64 a, .int .u64 b] w fun e w' => e = .returned (wd (n + a * b)) ∧ w.grownBy w' none := by
  have hp : 0 ≤ a * b := Int.mul_nonneg ha hb
  go_enter Try.func75, Try.ntmps75
  go_wp2_with (first | (go_at_call 102; refine (mul64 a b ha ha1 hb hb1 _).mono ?_; rintro e w' ⟨rfl, rfl⟩) | simp only [add64_0 (n % 18446744073709551616) (a * b % 18446744073709551616) (by omega) (by omega)] | simp only [add64 (n / 18446744073709551616) (a * b / 18446744073709551616) ((n % 18446744073709551616 + a * b % 18446744073709551616) / 18446744073709551616) (by omega) (by omega) (by omega) (by omega)])
  go_returns
  rw [show (n / 18446744073709551616 + a * b / 18446744073709551616 + (n % 18446744073709551616 + a * b % 18446744073709551616) / 18446744073709551616) % 18446744073709551616 = (n + a * b) / 18446744073709551616 from by omega]
  exact ⟨rfl, by (repeat (first | with_reducible exact gb_refl _ _ | with_reducible assumption | with_reducible apply gb_drew | with_reducible apply gb_drewN | with_reducible apply gb_set | with_reducible apply gb_alloc))⟩

set_option maxHeartbeats 1000000 in
theorem over_any (n : Int) (hn : 0 ≤ n) (hs : n < 41538374868278621028243970633760768) (w : World) :
    Calls Try.prog 76 #[wd n] w fun e w' => e = .returned (.int .u64 (n / 2251799813685248)) ∧ w' = w.alloc (.cells #[.int .u64 (n / 18446744073709551616), .int .u64 (n % 18446744073709551616)] 89) := by
  have m : bits .or .u64 (n / 18446744073709551616 * 8192) (n % 18446744073709551616 / 2251799813685248) = n / 2251799813685248 :=
    (or_join' 13 _ _ (by decide) (by omega) (by simp only [Int.reducePow]; omega) (by omega) (by omega) (by simp only [Int.reducePow]; omega)).trans (by omega)
  go_enter Try.func76, Try.ntmps76
  go_wp2
  go_returns
  exact ⟨rfl, rfl⟩

/-- A product, its number under a name. -/
theorem product_b (a b : Int) (B : Int) (ha : 0 ≤ a) (ha1 : a < 18446744073709551616) (hb : 0 ≤ b) (hb1 : b < 18446744073709551616) (hB : a * b ≤ B) (w : World) :
    Calls Try.prog 74 #[.int .u64 a, .int .u64 b] w fun e w' => ∃ m, Hid (m = a * b) ∧ (0 ≤ m ∧ m ≤ B) ∧ e = .returned (wd m) ∧ w.grownBy w' none :=
  (product_any a b ha ha1 hb hb1 w).mono fun _ _ ⟨he, hg⟩ => ⟨a * b, rfl, ⟨Int.mul_nonneg ha hb, hB⟩, he, hg⟩
theorem plus_b (n a b : Int) (U B : Int) (hn : 0 ≤ n) (hU : n ≤ U) (ha : 0 ≤ a) (ha1 : a < 18446744073709551616) (hb : 0 ≤ b) (hb1 : b < 18446744073709551616) (hB : a * b ≤ B) (hs : U + B < 340282366920938463463374607431768211456) (w : World) :
    Calls Try.prog 75 #[wd n, .int .u64 a, .int .u64 b] w fun e w' => ∃ m, Hid (m = n + a * b) ∧ (0 ≤ m ∧ m ≤ U + B) ∧ e = .returned (wd m) ∧ w.grownBy w' none :=
  (plus_any n a b hn ha ha1 hb hb1 (by omega) w).mono fun _ _ ⟨he, hg⟩ => ⟨n + a * b, rfl, ⟨by have := Int.mul_nonneg ha hb; omega, by omega⟩, he, hg⟩
end Go.Proofs.Ytialljmkkichiab
