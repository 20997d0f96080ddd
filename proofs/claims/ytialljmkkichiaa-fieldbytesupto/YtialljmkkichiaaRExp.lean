/- rimeref01.exponent: the prime less so much, halved so many times, in 32 bytes. -/
import Derived.Test.YtialljmkkichiaaRJoin
import Derived.Test.YtialljmkkichiaaRPow
set_option linter.unusedVariables false
set_option linter.unusedSimpArgs false
set_option linter.unnecessarySimpa false
namespace Go.Proofs.Ytialljmkkichiaa
open Go.RowKit N

theorem mkB32 (w : World) : (Instr.makeSlice 22 (.int .i64 32) (.int .i64 32)).run Try.prog w = .ok (.slice (some ⟨w.heap.size, 0, none⟩) 32 32) (w.alloc (.cells (bC 32 fun _ => 0) 5)) := by kernel_rfl
/-- The bytes' number, ahead of the halves. -/
def e0n (less : Nat) : Nat := (493 - less) % 256
def exn (less : Nat) : Nat := 226156424291633194186662080095093570025917938800079226639565593765455331327 * 256 + e0n less
theorem exn_lt (less : Nat) : exn less < 115792089237316195423570985008687907853269984665640564039457584007913129639936 := by unfold exn e0n; omega
theorem bf_exn (less j : Nat) (hj : j < 32) : bf (exn less) j = if j = 0 then e0n less else if j = 31 then 127 else 255 := by
  have he : e0n less < 256 := Nat.mod_lt _ (by decide)
  unfold exn
  generalize e0n less = e at *
  unfold bf
  by_cases h0 : j = 0
  · subst h0
    rw [if_pos rfl, Nat.pow_zero, Nat.div_one]
    omega
  · obtain ⟨i, rfl⟩ : ∃ i, j = i + 1 := ⟨j - 1, by omega⟩
    rw [if_neg h0, Nat.pow_succ, Nat.mul_comm (256 ^ i) 256, ← Nat.div_div_eq_div_mul]
    rw [show (226156424291633194186662080095093570025917938800079226639565593765455331327 * 256 + e) / 256 = 226156424291633194186662080095093570025917938800079226639565593765455331327 by omega]
    have h : ∀ i, i < 31 → 226156424291633194186662080095093570025917938800079226639565593765455331327 / 256 ^ i % 256 = if i + 1 = 31 then 127 else 255 := by decide +kernel
    exact h i (by omega)
theorem fill_b (k i : Nat) : upd (fun j => if j < k then 255 else 0) k 255 i = if i < k + 1 then 255 else 0 := by
  by_cases h : i = k
  · subst h; rw [upd_same, if_pos (by omega)]
  · rw [upd_other _ _ _ _ h]
    by_cases h2 : i < k
    · rw [if_pos h2, if_pos (by omega)]
    · rw [if_neg h2, if_neg (by omega)]
theorem fill_e (less j : Nat) (hj : j < 32) : upd (upd (fun j => if j < 32 then 255 else 0) 0 (e0n less)) 31 127 j = bf (exn less) j := by
  rw [bf_exn less j hj]
  by_cases h31 : j = 31
  · subst h31; rw [upd_same]; rfl
  · rw [upd_other _ _ _ _ h31]
    by_cases h0 : j = 0
    · subst h0; rw [upd_same]; rfl
    · rw [upd_other _ _ _ _ h0, if_pos hj, if_neg h0, if_neg h31]
/-- One half: byte i. -/
theorem bf_half (n i : Nat) : bf n i / 2 + bf n (i + 1) % 2 * 128 = bf (n / 2) i := by
  unfold bf
  rw [Nat.pow_succ, ← Nat.div_div_eq_div_mul, Nat.div_div_eq_div_mul n 2, Nat.mul_comm 2, ← Nat.div_div_eq_div_mul]
  generalize n / 256 ^ i = x
  omega
theorem bf_top (n : Nat) (h : n < 115792089237316195423570985008687907853269984665640564039457584007913129639936) : bf n 32 = 0 := by
  unfold bf
  rw [Nat.div_eq_of_lt (by omega)]
/-- The bytes when i of them have been halved. -/
def hfk (n i j : Nat) : Nat := if j < i then bf (n / 2) j else bf n j
theorem hfk_step (n i j : Nat) : upd (hfk n i) i (bf (n / 2) i) j = hfk n (i + 1) j := by
  by_cases e : j = i
  · subst e; rw [upd_same]; unfold hfk; rw [if_pos (by omega)]
  · rw [upd_other _ _ _ _ e]
    unfold hfk
    by_cases h : j < i
    · rw [if_pos h, if_pos (by omega)]
    · rw [if_neg h, if_neg (by omega)]
theorem or_top (x y : Nat) (hx : x < 256) : bits .or .u8 (((x : Nat) : Int) / 2) (((y : Nat) : Int) % 2 * 128) = ((x / 2 + y % 2 * 128 : Nat) : Int) := by
  have e1 : ((x : Nat) : Int) / 2 = ((x / 2 : Nat) : Int) := by omega
  have e2 : ((y : Nat) : Int) % 2 * 128 = ((y % 2 * 128 : Nat) : Int) := by omega
  rw [e1, e2, u8_or_nat (x / 2) (y % 2 * 128) (by omega) (by omega), Nat.or_comm, nat_join 7 (y % 2 * 128) (x / 2) (by omega) (by omega), Nat.add_comm]
theorem wrap_top (y : Int) : IntKind.u8.wrap (y * 128) = y % 2 * 128 := by rw [IntKind.wrap_u8']; omega

set_option maxHeartbeats 4000000 in
set_option maxRecDepth 100000 in
theorem exponent_r (less h : Nat) (hl : less < 256) (hh : h ≤ 100) (w : World) :
    Calls Try.prog 94 #[.int .u8 (less : Int), .int .i64 (h : Int)] w fun e w' => ∃ g, e = .returned (.slice (some ⟨g, 0, none⟩) 32 32) ∧ w.heap.size ≤ g ∧ Blk w' g (bC 32 (bf (exn less / 2 ^ h))) 5 ∧ Chg w w' [] := by
  have hmk := mkB32
  have B0 := Blk.new w (bC 32 fun _ => 0) 5
  have C0 := (Chg.refl w []).alloc (.cells (bC 32 fun _ => 0) 5)
  go_enter Try.func94, Try.ntmps94
  go_wp2_with fail
  generalize w.alloc (.cells (bC 32 fun _ => 0) 5) = v0 at *
  clear hmk
  go_loopw [6] (fun t wr => ∃ k : Nat, k ≤ 32 ∧ t = .int .i64 (k : Int) ∧ Blk wr w.heap.size (bC 32 fun j => if j < k then 255 else 0) 5 ∧ Chg w wr []) (fun t _ => (32 - intOf t).toNat)
  case atStart => exact ⟨0, by omega, rfl, B0.to (bC_congr 32 _ _ (fun i _ => by simp)), C0⟩
  case round =>
    obtain ⟨k, hk, rfl, b0, c0⟩ := hrel
    clear B0 C0
    by_cases hk32 : k < 32
    · have hK : (k : Int) < 32 := by omega
      have ck := (b0.cell k).trans (bC_get 32 _ k hk32)
      have fk := b0.frozen k
      have bn : Blk (wr.setCell ⟨w.heap.size, k, none⟩ (.int .u8 255)) w.heap.size (bC 32 fun j => if j < k + 1 then 255 else 0) 5 := (b0.setCell k _).to ((bC_set 32 _ k 255).trans (bC_congr 32 _ _ (fun i _ => fill_b k i)))
      have cn := c0.new (Chg.of (gb_set (gb_refl wr _) k (.int .u8 255))) (Nat.le_refl _)
      clear b0 c0
      go_wp2_with fail
      go_roundw
      case rel => exact ⟨k + 1, by omega, by go_num, bn, cn⟩
      case measure => simp [intOf]; omega
    · have hk2 : k = 32 := by omega
      subst hk2
      clear hk hk32
      obtain ⟨e0, he0⟩ : ∃ e, e = e0n less := ⟨_, rfl⟩
      have hw : IntKind.u8.wrap (237 - (less : Int)) = ((e0 : Nat) : Int) := by rw [IntKind.wrap_u8', he0]; unfold e0n; omega
      have ca := (b0.cell 0).trans (bC_get 32 _ 0 (by decide))
      have cb := (b0.cell 31).trans (bC_get 32 _ 31 (by decide))
      have fa := b0.frozen 0
      have fb := b0.frozen 31
      have bn : Blk ((wr.setCell ⟨w.heap.size, 0, none⟩ (.int .u8 ((e0 : Nat) : Int))).setCell ⟨w.heap.size, 31, none⟩ (.int .u8 127)) w.heap.size (bC 32 (bf (exn less / 2 ^ 0))) 5 := ((b0.setCell 0 (.int .u8 ((e0 : Nat) : Int))).setCell 31 (.int .u8 127)).to (by
        rw [bC_set 32 _ 0 e0, he0]
        refine (bC_set 32 _ 31 127).trans (bC_congr 32 _ _ (fun j hj => ?_))
        rw [Nat.pow_zero, Nat.div_one]
        exact fill_e less j hj)
      have cn := (c0.new (Chg.of (gb_set (gb_refl wr _) 0 (.int .u8 ((e0 : Nat) : Int)))) (Nat.le_refl _)).new (Chg.of (gb_set (gb_refl _ _) 31 (.int .u8 127))) (Nat.le_refl _)
      clear b0 c0 he0
      go_wp2_with fail
      go_loopw [7] (fun t wr => ∃ k : Nat, k ≤ h ∧ t = .int .i64 (k : Int) ∧ Blk wr w.heap.size (bC 32 (bf (exn less / 2 ^ k))) 5 ∧ Chg w wr []) (fun t _ => ((h : Int) - intOf t).toNat)
      case atStart => exact ⟨0, by omega, rfl, bn, cn⟩
      case round =>
        obtain ⟨k, hk, rfl, b0, c0⟩ := hrel
        by_cases hkh : k < h
        · have hK : (k : Int) < (h : Int) := by omega
          obtain ⟨n, hn⟩ : ∃ n, n = exn less / 2 ^ k := ⟨_, rfl⟩
          have hn2 : Hid (n / 2 = exn less / 2 ^ (k + 1)) := by
            show n / 2 = exn less / 2 ^ (k + 1)
            rw [hn, Nat.div_div_eq_div_mul, Nat.pow_succ]
          have hn256 : n < 115792089237316195423570985008687907853269984665640564039457584007913129639936 := Nat.lt_of_le_of_lt (by rw [hn]; exact Nat.div_le_self _ _) (exn_lt less)
          rw [← hn] at b0
          clear hn bn cn
          go_wp2_with fail
          go_loopw [8] (fun t wr => ∃ i : Nat, i ≤ 32 ∧ t = .int .i64 (i : Int) ∧ Blk wr w.heap.size (bC 32 (hfk n i)) 5 ∧ Chg w wr []) (fun t _ => (32 - intOf t).toNat)
          case atStart => exact ⟨0, by omega, rfl, b0.to (bC_congr 32 _ _ (fun j _ => by unfold hfk; rw [if_neg (by omega)])), c0⟩
          case round =>
            obtain ⟨i, hi, rfl, b0, c0⟩ := hrel
            by_cases hi32 : i < 32
            · have hI : (i : Int) < 32 := by omega
              obtain ⟨x, hx⟩ : ∃ x, x = bf n i := ⟨_, rfl⟩
              obtain ⟨y, hy⟩ : ∃ y, y = bf n (i + 1) := ⟨_, rfl⟩
              obtain ⟨z, hz⟩ : ∃ z, z = bf (n / 2) i := ⟨_, rfl⟩
              have hx256 : x < 256 := by rw [hx]; exact bf_lt n i
              have hxz : x / 2 + y % 2 * 128 = z := by rw [hx, hy, hz]; exact bf_half n i
              have ci : wr.cell? ⟨w.heap.size, i, none⟩ = some (.int .u8 ((x : Nat) : Int)) := by rw [b0.cell, bC_get 32 _ i hi32, hx]; unfold hfk; rw [if_neg (by omega)]
              have fi := b0.frozen i
              by_cases hi31 : i < 31
              · have hI2 : (i : Int) < 31 := by omega
                have hI3 : (i : Int) + 1 < 32 := by omega
                have cy : wr.cell? ⟨w.heap.size, i + 1, none⟩ = some (.int .u8 ((y : Nat) : Int)) := by rw [b0.cell, bC_get 32 _ (i + 1) (by omega), hy]; unfold hfk; rw [if_neg (by omega)]
                have h1 := wrap_top ((y : Nat) : Int)
                have h2 : bits .or .u8 (((x : Nat) : Int) / 2) (((y : Nat) : Int) % 2 * 128) = ((z : Nat) : Int) := by rw [or_top x y hx256, hxz]
                have bn : Blk ((wr.setCell ⟨w.heap.size, i, none⟩ (.int .u8 (((x : Nat) : Int) / 2))).setCell ⟨w.heap.size, i, none⟩ (.int .u8 ((z : Nat) : Int))) w.heap.size (bC 32 (hfk n (i + 1))) 5 := ((b0.setCell i (.int .u8 (((x : Nat) : Int) / 2))).setCell i (.int .u8 ((z : Nat) : Int))).to (by
                  rw [show ((x : Nat) : Int) / 2 = ((x / 2 : Nat) : Int) by omega, bC_set, bC_set]
                  refine bC_congr 32 _ _ (fun j _ => ?_)
                  rw [← hfk_step n i j, ← hz]
                  by_cases e : j = i
                  · subst e; rw [upd_same, upd_same]
                  · rw [upd_other _ _ _ _ e, upd_other _ _ _ _ e, upd_other _ _ _ _ e])
                have cn := (c0.new (Chg.of (gb_set (gb_refl wr _) i (.int .u8 (((x : Nat) : Int) / 2)))) (Nat.le_refl _)).new (Chg.of (gb_set (gb_refl _ _) i (.int .u8 ((z : Nat) : Int)))) (Nat.le_refl _)
                clear b0 c0 hx hy hz hxz
                go_wp2_with fail
                go_region
                go_wp2_with fail
                exact ⟨⟨i + 1, by omega, by go_num, bn.drew, cn.drew⟩, by simp [intOf]; omega⟩
              · have hi2 : i = 31 := by omega
                subst hi2
                have hy0 : y = 0 := by rw [hy]; exact bf_top n hn256
                have hz2 : ((x : Nat) : Int) / 2 = ((z : Nat) : Int) := by rw [hy0] at hxz; omega
                have bn : Blk (wr.setCell ⟨w.heap.size, 31, none⟩ (.int .u8 (((x : Nat) : Int) / 2))) w.heap.size (bC 32 (hfk n (31 + 1))) 5 := (b0.setCell 31 _).to (by
                  rw [hz2, bC_set]
                  refine bC_congr 32 _ _ (fun j _ => ?_)
                  rw [← hfk_step n 31 j, ← hz])
                have cn := c0.new (Chg.of (gb_set (gb_refl wr _) 31 (.int .u8 (((x : Nat) : Int) / 2)))) (Nat.le_refl _)
                clear b0 c0 hx hy hz hxz hy0 hz2
                go_wp2_with fail
                exact ⟨⟨31 + 1, by omega, by go_num, bn, cn⟩, by simp [intOf]⟩
            · have hi2 : i = 32 := by omega
              subst hi2
              have bn : Blk wr w.heap.size (bC 32 (bf (n / 2))) 5 := b0.to (bC_congr 32 _ _ (fun j hj => if_pos hj))
              rw [hn2.out] at bn
              clear b0 hi hi32
              go_wp2_with fail
              exact ⟨⟨k + 1, by omega, by go_num, bn, c0⟩, by simp [intOf]; omega⟩
        · have hkh2 : k = h := by omega
          subst hkh2
          clear hkh hk bn cn
          go_wp2
          go_ret
          exact ⟨w.heap.size, rfl, Nat.le_refl _, b0, c0⟩
end Go.Proofs.Ytialljmkkichiaa
