/- Joined: H16, H17. -/
import Derived.Test.YthpfdnkcepfbaaaDoorMgM
/- rimeref03: ror, Words, Constants. -/
set_option linter.unusedVariables false
set_option linter.unusedSimpArgs false
set_option linter.unnecessarySimpa false
namespace Go.Proofs.YthpfdnkcepfbaaaDoor
open Go.RowKit

theorem rror_1 (x : Nat) (hx : U x) (w : World) : Calls Tryd.prog 134 #[.int .u64 x, .int .u64 1] w fun e w' => e = .returned (.int .u64 (rr 1 x : Nat)) ∧ w' = w := by
  unfold U at hx
  have e2 : bits .or .u64 ((x : Int) / 2) (IntKind.u64.wrap ((x : Int) * 9223372036854775808)) = ((rr 1 x : Nat) : Int) := by
    rw [IntKind.wrap_u64]
    have h1 : ((x : Int) * 9223372036854775808) % 18446744073709551616 = ((x * 9223372036854775808 % 18446744073709551616 : Nat) : Int) := by omega
    have h2 : (x : Int) / 2 = ((x / 2 : Nat) : Int) := by omega
    rw [h1, h2, u64_or_nat _ _ (by omega) (by omega)]
    unfold rr
    rw [Nat.shiftLeft_eq, Nat.shiftRight_eq_div_pow]
  go_enter Tryd.func134, Tryd.ntmps134
  go_wp2
  go_ret
  exact ⟨by rw [← e2]; rfl, rfl⟩
theorem rror_8 (x : Nat) (hx : U x) (w : World) : Calls Tryd.prog 134 #[.int .u64 x, .int .u64 8] w fun e w' => e = .returned (.int .u64 (rr 8 x : Nat)) ∧ w' = w := by
  unfold U at hx
  have e2 : bits .or .u64 ((x : Int) / 256) (IntKind.u64.wrap ((x : Int) * 72057594037927936)) = ((rr 8 x : Nat) : Int) := by
    rw [IntKind.wrap_u64]
    have h1 : ((x : Int) * 72057594037927936) % 18446744073709551616 = ((x * 72057594037927936 % 18446744073709551616 : Nat) : Int) := by omega
    have h2 : (x : Int) / 256 = ((x / 256 : Nat) : Int) := by omega
    rw [h1, h2, u64_or_nat _ _ (by omega) (by omega)]
    unfold rr
    rw [Nat.shiftLeft_eq, Nat.shiftRight_eq_div_pow]
  go_enter Tryd.func134, Tryd.ntmps134
  go_wp2
  go_ret
  exact ⟨by rw [← e2]; rfl, rfl⟩
theorem rror_14 (x : Nat) (hx : U x) (w : World) : Calls Tryd.prog 134 #[.int .u64 x, .int .u64 14] w fun e w' => e = .returned (.int .u64 (rr 14 x : Nat)) ∧ w' = w := by
  unfold U at hx
  have e2 : bits .or .u64 ((x : Int) / 16384) (IntKind.u64.wrap ((x : Int) * 1125899906842624)) = ((rr 14 x : Nat) : Int) := by
    rw [IntKind.wrap_u64]
    have h1 : ((x : Int) * 1125899906842624) % 18446744073709551616 = ((x * 1125899906842624 % 18446744073709551616 : Nat) : Int) := by omega
    have h2 : (x : Int) / 16384 = ((x / 16384 : Nat) : Int) := by omega
    rw [h1, h2, u64_or_nat _ _ (by omega) (by omega)]
    unfold rr
    rw [Nat.shiftLeft_eq, Nat.shiftRight_eq_div_pow]
  go_enter Tryd.func134, Tryd.ntmps134
  go_wp2
  go_ret
  exact ⟨by rw [← e2]; rfl, rfl⟩
theorem rror_18 (x : Nat) (hx : U x) (w : World) : Calls Tryd.prog 134 #[.int .u64 x, .int .u64 18] w fun e w' => e = .returned (.int .u64 (rr 18 x : Nat)) ∧ w' = w := by
  unfold U at hx
  have e2 : bits .or .u64 ((x : Int) / 262144) (IntKind.u64.wrap ((x : Int) * 70368744177664)) = ((rr 18 x : Nat) : Int) := by
    rw [IntKind.wrap_u64]
    have h1 : ((x : Int) * 70368744177664) % 18446744073709551616 = ((x * 70368744177664 % 18446744073709551616 : Nat) : Int) := by omega
    have h2 : (x : Int) / 262144 = ((x / 262144 : Nat) : Int) := by omega
    rw [h1, h2, u64_or_nat _ _ (by omega) (by omega)]
    unfold rr
    rw [Nat.shiftLeft_eq, Nat.shiftRight_eq_div_pow]
  go_enter Tryd.func134, Tryd.ntmps134
  go_wp2
  go_ret
  exact ⟨by rw [← e2]; rfl, rfl⟩
theorem rror_19 (x : Nat) (hx : U x) (w : World) : Calls Tryd.prog 134 #[.int .u64 x, .int .u64 19] w fun e w' => e = .returned (.int .u64 (rr 19 x : Nat)) ∧ w' = w := by
  unfold U at hx
  have e2 : bits .or .u64 ((x : Int) / 524288) (IntKind.u64.wrap ((x : Int) * 35184372088832)) = ((rr 19 x : Nat) : Int) := by
    rw [IntKind.wrap_u64]
    have h1 : ((x : Int) * 35184372088832) % 18446744073709551616 = ((x * 35184372088832 % 18446744073709551616 : Nat) : Int) := by omega
    have h2 : (x : Int) / 524288 = ((x / 524288 : Nat) : Int) := by omega
    rw [h1, h2, u64_or_nat _ _ (by omega) (by omega)]
    unfold rr
    rw [Nat.shiftLeft_eq, Nat.shiftRight_eq_div_pow]
  go_enter Tryd.func134, Tryd.ntmps134
  go_wp2
  go_ret
  exact ⟨by rw [← e2]; rfl, rfl⟩
theorem rror_28 (x : Nat) (hx : U x) (w : World) : Calls Tryd.prog 134 #[.int .u64 x, .int .u64 28] w fun e w' => e = .returned (.int .u64 (rr 28 x : Nat)) ∧ w' = w := by
  unfold U at hx
  have e2 : bits .or .u64 ((x : Int) / 268435456) (IntKind.u64.wrap ((x : Int) * 68719476736)) = ((rr 28 x : Nat) : Int) := by
    rw [IntKind.wrap_u64]
    have h1 : ((x : Int) * 68719476736) % 18446744073709551616 = ((x * 68719476736 % 18446744073709551616 : Nat) : Int) := by omega
    have h2 : (x : Int) / 268435456 = ((x / 268435456 : Nat) : Int) := by omega
    rw [h1, h2, u64_or_nat _ _ (by omega) (by omega)]
    unfold rr
    rw [Nat.shiftLeft_eq, Nat.shiftRight_eq_div_pow]
  go_enter Tryd.func134, Tryd.ntmps134
  go_wp2
  go_ret
  exact ⟨by rw [← e2]; rfl, rfl⟩
theorem rror_34 (x : Nat) (hx : U x) (w : World) : Calls Tryd.prog 134 #[.int .u64 x, .int .u64 34] w fun e w' => e = .returned (.int .u64 (rr 34 x : Nat)) ∧ w' = w := by
  unfold U at hx
  have e2 : bits .or .u64 ((x : Int) / 17179869184) (IntKind.u64.wrap ((x : Int) * 1073741824)) = ((rr 34 x : Nat) : Int) := by
    rw [IntKind.wrap_u64]
    have h1 : ((x : Int) * 1073741824) % 18446744073709551616 = ((x * 1073741824 % 18446744073709551616 : Nat) : Int) := by omega
    have h2 : (x : Int) / 17179869184 = ((x / 17179869184 : Nat) : Int) := by omega
    rw [h1, h2, u64_or_nat _ _ (by omega) (by omega)]
    unfold rr
    rw [Nat.shiftLeft_eq, Nat.shiftRight_eq_div_pow]
  go_enter Tryd.func134, Tryd.ntmps134
  go_wp2
  go_ret
  exact ⟨by rw [← e2]; rfl, rfl⟩
theorem rror_39 (x : Nat) (hx : U x) (w : World) : Calls Tryd.prog 134 #[.int .u64 x, .int .u64 39] w fun e w' => e = .returned (.int .u64 (rr 39 x : Nat)) ∧ w' = w := by
  unfold U at hx
  have e2 : bits .or .u64 ((x : Int) / 549755813888) (IntKind.u64.wrap ((x : Int) * 33554432)) = ((rr 39 x : Nat) : Int) := by
    rw [IntKind.wrap_u64]
    have h1 : ((x : Int) * 33554432) % 18446744073709551616 = ((x * 33554432 % 18446744073709551616 : Nat) : Int) := by omega
    have h2 : (x : Int) / 549755813888 = ((x / 549755813888 : Nat) : Int) := by omega
    rw [h1, h2, u64_or_nat _ _ (by omega) (by omega)]
    unfold rr
    rw [Nat.shiftLeft_eq, Nat.shiftRight_eq_div_pow]
  go_enter Tryd.func134, Tryd.ntmps134
  go_wp2
  go_ret
  exact ⟨by rw [← e2]; rfl, rfl⟩
theorem rror_41 (x : Nat) (hx : U x) (w : World) : Calls Tryd.prog 134 #[.int .u64 x, .int .u64 41] w fun e w' => e = .returned (.int .u64 (rr 41 x : Nat)) ∧ w' = w := by
  unfold U at hx
  have e2 : bits .or .u64 ((x : Int) / 2199023255552) (IntKind.u64.wrap ((x : Int) * 8388608)) = ((rr 41 x : Nat) : Int) := by
    rw [IntKind.wrap_u64]
    have h1 : ((x : Int) * 8388608) % 18446744073709551616 = ((x * 8388608 % 18446744073709551616 : Nat) : Int) := by omega
    have h2 : (x : Int) / 2199023255552 = ((x / 2199023255552 : Nat) : Int) := by omega
    rw [h1, h2, u64_or_nat _ _ (by omega) (by omega)]
    unfold rr
    rw [Nat.shiftLeft_eq, Nat.shiftRight_eq_div_pow]
  go_enter Tryd.func134, Tryd.ntmps134
  go_wp2
  go_ret
  exact ⟨by rw [← e2]; rfl, rfl⟩
theorem rror_61 (x : Nat) (hx : U x) (w : World) : Calls Tryd.prog 134 #[.int .u64 x, .int .u64 61] w fun e w' => e = .returned (.int .u64 (rr 61 x : Nat)) ∧ w' = w := by
  unfold U at hx
  have e2 : bits .or .u64 ((x : Int) / 2305843009213693952) (IntKind.u64.wrap ((x : Int) * 8)) = ((rr 61 x : Nat) : Int) := by
    rw [IntKind.wrap_u64]
    have h1 : ((x : Int) * 8) % 18446744073709551616 = ((x * 8 % 18446744073709551616 : Nat) : Int) := by omega
    have h2 : (x : Int) / 2305843009213693952 = ((x / 2305843009213693952 : Nat) : Int) := by omega
    rw [h1, h2, u64_or_nat _ _ (by omega) (by omega)]
    unfold rr
    rw [Nat.shiftLeft_eq, Nat.shiftRight_eq_div_pow]
  go_enter Tryd.func134, Tryd.ntmps134
  go_wp2
  go_ret
  exact ⟨by rw [← e2]; rfl, rfl⟩
set_option maxHeartbeats 4000000 in
set_option maxRecDepth 100000 in
theorem Words_r (w : World) : Calls Tryd.prog 98 #[] w fun e w' => e = .returned (.agg (vC 8 IV)) ∧ Chg w w' [] := by
  have A := Blk.new w z8 155
  go_enter Tryd.func98, Tryd.ntmps98
  go_wp2_with (first | (refine wpList_build_c rfl 155 _ rfl (vC 8 IV) (by kernel_rfl) ?_) | (refine wpList_store_row rfl 155 _ _ rfl w.heap.size _ rfl rfl 155 _ A (by rw [vC_size]; exact S8Info) (by rw [vC_size]; rfl) (vC_one _ _) ?_))
  exact bodyPost_ret (results_cell_row Tryd.results98 _ _ w.heap.size 155 (vC 8 IV) (0, 0) _ rfl (A.setRow _) Tryd.underlying155 rfl (by rw [vC_size]; exact S8Info)) rfl ⟨rfl, ((Chg.refl w []).alloc _).setRowNew (Nat.le_refl _) _⟩
set_option maxHeartbeats 4000000 in
set_option maxRecDepth 100000 in
theorem Constants_r (w : World) : Calls Tryd.prog 133 #[] w fun e w' => e = .returned (.agg (vC 80 KK)) ∧ Chg w w' [] := by
  have A := Blk.new w Tryd.zeroCells237 237
  have sz : Tryd.zeroCells237.size = 80 := by kernel_rfl
  go_enter Tryd.func133, Tryd.ntmps133
  go_wp2_with (first | (refine wpList_build_c rfl 237 _ rfl (vC 80 KK) (by kernel_rfl) ?_) | (refine wpList_store_row rfl 237 _ _ rfl w.heap.size _ rfl rfl 237 _ A (by rw [vC_size]; exact W80Info) (by rw [vC_size]; exact sz) (vC_one _ _) ?_))
  exact bodyPost_ret (results_cell_row Tryd.results133 _ _ w.heap.size 237 (vC 80 KK) (0, 0) _ rfl (A.setRow _) Tryd.underlying237 rfl (by rw [vC_size]; exact W80Info)) rfl ⟨rfl, ((Chg.refl w []).alloc _).setRowNew (Nat.le_refl _) _⟩

end Go.Proofs.YthpfdnkcepfbaaaDoor

/- sha512.Pad of 2^61 and more, Compress of other than 128 bytes. -/
namespace Go.Proofs.YthpfdnkcepfbaaaDoor
open Go.RowKit

end Go.Proofs.YthpfdnkcepfbaaaDoor
