/- rimeref12.plus. -/
import Derived.Test.YtnopkojpgemldaaSrSub
set_option linter.unusedVariables false
set_option linter.unusedSimpArgs false
set_option linter.unnecessarySimpa false
namespace Go.Proofs.Ytnopkojpgemldaa
open Go.RowKit

/-- What is carried into place i of X + Y. -/
def cyA (X Y i : Nat) : Nat := (X % 4294967296 ^ i + Y % 4294967296 ^ i) / 4294967296 ^ i
theorem cyA_zero (X Y : Nat) : cyA X Y 0 = 0 := by simp [cyA, Nat.mod_one]
theorem cyA_le (X Y i : Nat) : cyA X Y i ≤ 1 := by
  unfold cyA
  have hP : 0 < 4294967296 ^ i := Nat.pow_pos (by decide)
  have h1 := Nat.mod_lt X hP
  have h2 := Nat.mod_lt Y hP
  have : (X % 4294967296 ^ i + Y % 4294967296 ^ i) / 4294967296 ^ i < 2 := Nat.div_lt_of_lt_mul (by omega)
  omega
theorem cyA_succ (X Y i : Nat) : cyA X Y (i + 1) = (cyA X Y i + dg X i + dg Y i) / 4294967296 := by
  unfold cyA dg
  rw [Nat.pow_succ, Nat.mod_mul, Nat.mod_mul]
  have hP : 0 < 4294967296 ^ i := Nat.pow_pos (by decide)
  generalize 4294967296 ^ i = P at *
  generalize X / P % 4294967296 = x
  generalize Y / P % 4294967296 = y
  rw [← Nat.div_div_eq_div_mul, show X % P + P * x + (Y % P + P * y) = X % P + Y % P + P * (x + y) by rw [Nat.mul_add]; omega, Nat.add_mul_div_left _ _ hP, Nat.add_assoc]
theorem dg_add (X Y i : Nat) : dg (X + Y) i = (cyA X Y i + dg X i + dg Y i) % 4294967296 := by
  unfold cyA dg
  have hP : 0 < 4294967296 ^ i := Nat.pow_pos (by decide)
  have e1 := Nat.div_add_mod X (4294967296 ^ i)
  have e2 := Nat.div_add_mod Y (4294967296 ^ i)
  generalize 4294967296 ^ i = P at *
  have e : (X + Y) / P = (X % P + Y % P) / P + (X / P + Y / P) := by
    rw [show X + Y = X % P + Y % P + P * (X / P + Y / P) by rw [Nat.mul_add]; omega, Nat.add_mul_div_left _ _ hP]
  rw [e]
  generalize (X % P + Y % P) / P = c
  generalize X / P = x
  generalize Y / P = y
  omega
set_option maxHeartbeats 4000000 in
set_option maxRecDepth 100000 in
theorem plus_r (n m : Nat) (w : World) :
    Calls Try.prog 62 #[.agg (dC n), .agg (dC m)] w fun e w' => e = .returned (.agg (dC (n + m))) ∧ Chg w w' [] := by
  have B0 : Blk (((w.alloc (.cells (dC n) 101)).alloc (.cells (dC m) 101)).alloc (.cells z5u 101)) w.heap.size (dC n) 101 := ((Blk.new w (dC n) 101).alloc _).alloc _
  have B1 : Blk (((w.alloc (.cells (dC n) 101)).alloc (.cells (dC m) 101)).alloc (.cells z5u 101)) (w.heap.size + 1) (dC m) 101 := by have h := (Blk.new (w.alloc (.cells (dC n) 101)) (dC m) 101).alloc (.cells z5u 101); simpa using h
  have B2 : Blk (((w.alloc (.cells (dC n) 101)).alloc (.cells (dC m) 101)).alloc (.cells z5u 101)) (w.heap.size + 2) z5u 101 := by have h := Blk.new ((w.alloc (.cells (dC n) 101)).alloc (.cells (dC m) 101)) z5u 101; simpa using h
  have C0 : Chg w (((w.alloc (.cells (dC n) 101)).alloc (.cells (dC m) 101)).alloc (.cells z5u 101)) [] := (((Chg.refl w []).alloc _).alloc _).alloc _
  obtain ⟨q, hq⟩ : ∃ q, q = n + m := ⟨_, rfl⟩
  have HD : Hid (∀ i, dg q i = (cyA n m i + dg n i + dg m i) % 4294967296) := show ∀ i, dg q i = (cyA n m i + dg n i + dg m i) % 4294967296 from fun i => by rw [hq]; exact dg_add n m i
  rw [← mix_zero q n] at B0
  rw [← hq]
  clear hq
  go_enter Try.func62, Try.ntmps62
  go_wp2_with fail
  go_loopw [6, 5] (fun t c wr => ∃ i : Nat, i ≤ 5 ∧ t = .int .i64 (i : Int) ∧ c = .int .u64 ((cyA n m i : Nat) : Int) ∧ Blk wr w.heap.size (uC 5 (mix q n i)) 101 ∧ Blk wr (w.heap.size + 1) (dC m) 101 ∧ Blk wr (w.heap.size + 2) z5u 101 ∧ Chg w wr []) (fun t _ _ => (5 - intOf t).toNat)
  case atStart => exact ⟨0, by omega, rfl, by rw [cyA_zero]; rfl, B0, B1, B2, C0⟩
  case round =>
    obtain ⟨i, hi, rfl, rfl, b0, b1, b2, c0⟩ := hrel
    clear B0 B1 B2 C0
    by_cases h5 : i < 5
    · have hI : (i : Int) < 5 := by omega
      have hx := dg_lt n i
      have hy := dg_lt m i
      have hbw := cyA_le n m i
      have cA := (b0.cell i).trans ((uC_get 5 (mix q n i) i h5).trans (by rw [mix_at]))
      have fA := b0.frozen i
      have cB := (b1.cell i).trans (uC_get 5 (dg m) i h5)
      obtain ⟨D, hD⟩ : ∃ D : Int, D = ((cyA n m i : Nat) : Int) + ((dg n i : Nat) : Int) + ((dg m i : Nat) : Int) := ⟨_, rfl⟩
      have w1 : IntKind.u64.wrap (IntKind.u64.wrap (((cyA n m i : Nat) : Int) + ((dg n i : Nat) : Int)) + ((dg m i : Nat) : Int)) = D := by rw [IntKind.wrap_u64, IntKind.wrap_u64, hD]; omega
      have w2 : D % 4294967296 = ((dg q i : Nat) : Int) := by rw [HD.out i, hD]; omega
      have w3 : Hid (D / 4294967296 = ((cyA n m (i + 1) : Nat) : Int)) := by show D / 4294967296 = ((cyA n m (i + 1) : Nat) : Int); rw [cyA_succ, hD]; omega
      have D0 : 0 ≤ D := by omega
      have D1 : D < 18446744073709551616 := by omega
      have bn : Blk (wr.setCell ⟨w.heap.size, i, none⟩ (.int .u32 ((dg q i : Nat) : Int))) w.heap.size (uC 5 (mix q n (i + 1))) 101 := (b0.setCell i _).to (by rw [uC_set, mix_step])
      have b1n := b1.setOther (show ¬ w.heap.size + 1 = w.heap.size by omega) i (.int .u32 ((dg q i : Nat) : Int))
      have b2n := b2.setOther (show ¬ w.heap.size + 2 = w.heap.size by omega) i (.int .u32 ((dg q i : Nat) : Int))
      have cn := c0.setNew (show w.heap.size ≤ w.heap.size by omega) i (.int .u32 ((dg q i : Nat) : Int))
      have w1' : ((cyA n m i : Nat) : Int) + ((dg n i : Nat) : Int) + ((dg m i : Nat) : Int) = D := hD.symm
      clear b0 b1 b2 c0 HD hD
      go_wp2_with fail
      go_region
      go_wp2_with fail
      exact ⟨⟨i + 1, by omega, by go_num, by rw [w3.out], bn.drew, b1n.drew, b2n.drew, cn.drew⟩, by simp [intOf]; omega⟩
    · have h9 : i = 5 := by omega
      subst h9
      rw [mix_all] at b0
      go_wp2_with (first | (refine wpList_load_row rfl 101 _ rfl w.heap.size rfl 101 _ (0, 0) _ b0 Try.underlying101 rfl NumInfo ?_) | (refine wpList_store_row rfl 101 _ _ rfl (w.heap.size + 2) _ rfl rfl 101 _ b2 NumInfo rfl (dC_one _) ?_))
      exact bodyPost_ret (results_cell_row Try.results62 _ _ (w.heap.size + 2) 101 (dC q) (0, 0) _ rfl (Blk.setRow b2 _) Try.underlying101 rfl NumInfo) rfl ⟨rfl, c0.setRowNew (by omega) _⟩
end Go.Proofs.Ytnopkojpgemldaa
