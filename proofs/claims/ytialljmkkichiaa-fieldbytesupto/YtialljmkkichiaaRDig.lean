/- rimeref01.digits. -/
import Derived.Test.YtialljmkkichiaaRDigM
import Derived.Test.YtialljmkkichiaaRMod
import Derived.Laws.MakeOwn
set_option linter.unusedVariables false
set_option linter.unusedSimpArgs false
set_option linter.unnecessarySimpa false
namespace Go.Proofs.Ytialljmkkichiaa
open Go.RowKit N

theorem made_u64 (n : Nat) : madeCells #[.int .u64 0] n = uC n fun _ => 0 := by
  apply Array.ext_getElem?
  intro i
  by_cases hi : i < n
  · rw [uC_get n _ i hi]
    have hs : i < (Array.range n).size := by simpa using hi
    unfold madeCells
    rw [Array.getElem?_map, Array.getElem?_eq_getElem hs]
    simp [Nat.mod_one]
  · rw [uC_none n _ i hi, Array.getElem?_eq_none (by rw [size_madeCells]; omega)]
theorem u64Info : ∃ i : TypeInfo, Try.prog.info? 25 = some i ∧ i.zero = some (.int .u64 0) ∧ i.bytes = 8 ∧ i.size = 1 := by
  have h : (Try.prog.info? 25).map (fun i => (i.zero, i.bytes, i.size)) = some (some (.int .u64 0), 8, 1) := by kernel_rfl
  cases hi : Try.prog.info? 25 with
  | none => rw [hi] at h; cases h
  | some i =>
    rw [hi] at h
    injection h with h
    injection h with h1 h2
    injection h2 with h2 h3
    exact ⟨i, rfl, h1, h2, h3⟩
theorem mkU (n : Nat) (hn : n ≤ 35184372088832) (w : World) : (Instr.makeSlice 86 (.int .i64 (n : Int)) (.int .i64 (n : Int))).run Try.prog w = .ok (.slice (some ⟨w.heap.size, 0, none⟩) n n) (w.alloc (.cells (uC n fun _ => 0) 25)) := by
  obtain ⟨i, hi, hz, hb, hs⟩ := u64Info
  have h := run_make (P := Try.prog) w 86 25 i (.int .u64 0) Try.underlying86 hi hz .i64 .i64 (n : Int) (n : Int) (by omega) (by omega) (by rw [hb]; omega) (by omega)
  rw [hs, Nat.mul_one] at h
  simp only [Int.toNat_natCast, Value.cells, made_u64] at h
  exact h

set_option maxHeartbeats 4000000 in
set_option maxRecDepth 100000 in
theorem digits_r (g o n cap : Nat) (b : Nat → Nat) (hn : n ≤ 35184372088832) (w : World) (hB : Bs w g o n b) :
    Calls Try.prog 69 #[.slice (some ⟨g, o, none⟩) n cap] w fun e w' => ∃ h, e = .returned (.slice (some ⟨h, 0, none⟩) ((n + 1) / 2) ((n + 1) / 2)) ∧ w.heap.size ≤ h ∧ Blk w' h (uC ((n + 1) / 2) (dfk b n)) 25 ∧ Chg w w' [] := by
  have hg := hB.lt
  have hbd := hB.bd
  obtain ⟨m, hm⟩ : ∃ m, m = (n + 1) / 2 := ⟨_, rfl⟩
  rw [← hm]
  have hmk := mkU m (by omega)
  have hmI : ((n : Int) + 1) / 2 = (m : Int) := by omega
  have hmI' : Hid (m = (n + 1) / 2) := hm
  clear hm
  have B1 := Blk.new w (uC m fun _ => 0) 25
  rw [uC_congr m _ (dfk b 0) (fun i _ => (dfk_zero b i).symm)] at B1
  have C0 := (Chg.refl w []).alloc (.cells (uC m fun _ => 0) 25)
  replace hB := hB.alloc (.cells (uC m fun _ => 0) 25)
  rw [uC_congr m _ (dfk b 0) (fun i _ => (dfk_zero b i).symm)] at C0 hB
  rw [uC_congr m _ (dfk b 0) (fun i _ => (dfk_zero b i).symm)] at hmk
  go_enter Try.func69, Try.ntmps69
  go_wp2_with fail
  clear hmk
  go_loopw [4] (fun t wr => ∃ k : Nat, k ≤ n ∧ t = .int .i64 (k : Int) ∧ Blk wr w.heap.size (uC m (dfk b k)) 25 ∧ Bs wr g o n b ∧ Chg w wr []) (fun t _ => ((n : Int) - intOf t).toNat)
  case atStart => exact ⟨0, by omega, rfl, B1, hB, C0⟩
  case round =>
    obtain ⟨k, hk, rfl, b1, u0, c0⟩ := hrel
    clear B1 C0 hB
    have hgw : ¬ g = w.heap.size := by omega
    by_cases hkn : k < n
    · have hbk := hbd k hkn
      have cB := u0.cell k hkn
      obtain ⟨j, hj⟩ : ∃ j, k = 2 * j ∨ k = 2 * j + 1 := ⟨k / 2, by omega⟩
      have hjm : j < m := by have := hmI'.out; omega
      have hjI : (j : Int) < (m : Int) := by omega
      have cA := (b1.cell j).trans (uC_get m (dfk b k) j hjm)
      have fA := b1.frozen j
      have hfl := dfk_lt b n k j hk hbd
      rcases hj with rfl | rfl
      · have hI : 2 * (j : Int) < (n : Int) := by omega
        have h1 := u64w ((b (2 * j) : Nat) : Int) (by omega) (by omega)
        have hw := u64w (((dfk b (2 * j) j : Nat) : Int) + ((b (2 * j) : Nat) : Int)) (by omega) (by omega)
        have bn : Blk (wr.setCell ⟨w.heap.size, j, none⟩ (.int .u64 (((dfk b (2 * j) j : Nat) : Int) + ((b (2 * j) : Nat) : Int)))) w.heap.size (uC m (dfk b (2 * j + 1))) 25 := (b1.setCell j _).to (by rw [natc, uC_set]; exact uC_congr m _ _ (fun i _ => dfk_even b j i))
        have un := u0.chg (Chg.of (gb_set (gb_refl wr _) j (.int .u64 (((dfk b (2 * j) j : Nat) : Int) + ((b (2 * j) : Nat) : Int))))) (by rw [List.mem_singleton]; exact hgw)
        have cn := c0.new (Chg.of (gb_set (gb_refl wr _) j (.int .u64 (((dfk b (2 * j) j : Nat) : Int) + ((b (2 * j) : Nat) : Int))))) (Nat.le_refl _)
        clear b1 u0 c0
        go_wp2_with fail
        go_region
        go_wp2_with fail
        exact ⟨⟨2 * j + 1, by omega, by go_num, bn.drew, un.chg ((Chg.refl _ []).drew) (by simp), cn.drew⟩, by simp [intOf]; omega⟩
      · have hI : 2 * (j : Int) + 1 < (n : Int) := by omega
        have hq1 : (2 * (j : Int) + 1) / 2 = (j : Int) := by omega
        have hq2 : (2 * (j : Int) + 1) % 2 = 1 := by omega
        have h1 := u64w (((b (2 * j + 1) : Nat) : Int) * 256) (by omega) (by omega)
        have hw := u64w (((dfk b (2 * j + 1) j : Nat) : Int) + ((b (2 * j + 1) : Nat) : Int) * 256) (by omega) (by omega)
        have hc : ((dfk b (2 * j + 1) j : Nat) : Int) + ((b (2 * j + 1) : Nat) : Int) * 256 = ((dfk b (2 * j + 1) j + b (2 * j + 1) * 256 : Nat) : Int) := by omega
        have bn : Blk (wr.setCell ⟨w.heap.size, j, none⟩ (.int .u64 (((dfk b (2 * j + 1) j : Nat) : Int) + ((b (2 * j + 1) : Nat) : Int) * 256))) w.heap.size (uC m (dfk b (2 * j + 1 + 1))) 25 := (b1.setCell j _).to (by rw [hc, uC_set]; exact uC_congr m _ _ (fun i _ => dfk_odd b j i))
        have un := u0.chg (Chg.of (gb_set (gb_refl wr _) j (.int .u64 (((dfk b (2 * j + 1) j : Nat) : Int) + ((b (2 * j + 1) : Nat) : Int) * 256)))) (by rw [List.mem_singleton]; exact hgw)
        have cn := c0.new (Chg.of (gb_set (gb_refl wr _) j (.int .u64 (((dfk b (2 * j + 1) j : Nat) : Int) + ((b (2 * j + 1) : Nat) : Int) * 256)))) (Nat.le_refl _)
        clear b1 u0 c0 hc
        go_wp2_with fail
        go_region
        go_wp2_with fail
        exact ⟨⟨2 * j + 1 + 1, by omega, by go_num, bn.drew, un.chg ((Chg.refl _ []).drew) (by simp), cn.drew⟩, by simp [intOf]; omega⟩
    · have hkn2 : k = n := by omega
      subst hkn2
      clear hkn
      go_wp2
      go_ret
      exact ⟨w.heap.size, rfl, Nat.le_refl _, b1, c0⟩
end Go.Proofs.Ytialljmkkichiaa
