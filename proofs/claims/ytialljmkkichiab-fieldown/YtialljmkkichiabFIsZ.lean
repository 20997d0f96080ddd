/- Layer 1: (*number).isZero. -/
import Derived.Test.YtialljmkkichiabLoadAtF
import Derived.Test.YtialljmkkichiabEq
set_option linter.unusedVariables false
set_option linter.unusedSimpArgs false
set_option linter.unnecessarySimpa false
namespace Go.Proofs.Ytialljmkkichiab
open Go.RowKit N

def l5 (x0 x1 x2 x3 x4 : Int) : Nat → Int
  | 0 => x0
  | 1 => x1
  | 2 => x2
  | 3 => x3
  | _ => x4
theorem l5_get (x0 x1 x2 x3 x4 : Int) : ∀ j, j < 5 → (#[Value.int .u64 x0, .int .u64 x1, .int .u64 x2, .int .u64 x3, .int .u64 x4])[j]? = some (.int .u64 (l5 x0 x1 x2 x3 x4 j))
  | 0, _ => rfl
  | 1, _ => rfl
  | 2, _ => rfl
  | 3, _ => rfl
  | 4, _ => rfl
  | n + 5, h => by omega
theorem u64Info5 : ∃ i, Try.prog.info? 26 = some i := Option.isSome_iff_exists.1 (by kernel_rfl)
theorem u64Cells5 : Try.prog.cellsOf 26 = 1 := by kernel_rfl
theorem numGuard5 : Try.prog.eqGuardType Try.prog.depth 79 = false := by kernel_rfl
theorem eq_num5 (x0 x1 x2 x3 x4 y0 y1 y2 y3 y4 : Int) (w : World) : (Op.equalIn 10000 79 (.agg #[.int .u64 x0, .int .u64 x1, .int .u64 x2, .int .u64 x3, .int .u64 x4]) (.agg #[.int .u64 y0, .int .u64 y1, .int .u64 y2, .int .u64 y3, .int .u64 y4])).run Try.prog w =
    .ok ((List.range 5).all fun i => l5 x0 x1 x2 x3 x4 i == l5 y0 y1 y2 y3 y4 i) w := by
  obtain ⟨i, hi⟩ := u64Info5
  rw [show (10000 : Nat) = 9998 + 1 + 1 from rfl, run_equalIn_array w 9999 _ _ Try.underlying79 hi, u64Cells5]
  exact eqItems_ints w 9998 Try.underlying26 _ _ (l5 x0 x1 x2 x3 x4) (l5 y0 y1 y2 y3 y4) (List.range 5) (fun j hj => ⟨l5_get x0 x1 x2 x3 x4 j (by simpa using hj), l5_get y0 y1 y2 y3 y4 j (by simpa using hj)⟩)
theorem zero5 {y0 y1 y2 y3 y4 n : Int} (l : Li y0 ∧ Li y1 ∧ Li y2 ∧ Li y3 ∧ Li y4) (hv : V y0 y1 y2 y3 y4 = n) : ((List.range 5).all fun i => l5 y0 y1 y2 y3 y4 i == l5 0 0 0 0 0 i) = decide (n = 0) := by
  obtain ⟨⟨a0, b0⟩, ⟨a1, b1⟩, ⟨a2, b2⟩, ⟨a3, b3⟩, a4, b4⟩ := l
  unfold V at hv
  have e : ((List.range 5).all fun i => l5 y0 y1 y2 y3 y4 i == l5 0 0 0 0 0 i) = (y0 == 0 && (y1 == 0 && (y2 == 0 && (y3 == 0 && (y4 == 0 && true))))) := rfl
  rw [e]
  by_cases h : n = 0
  · have h0 : y0 = 0 := by omega
    have h1 : y1 = 0 := by omega
    have h2 : y2 = 0 := by omega
    have h3 : y3 = 0 := by omega
    have h4 : y4 = 0 := by omega
    rw [h0, h1, h2, h3, h4, decide_eq_true h]
    rfl
  · rw [decide_eq_false h]
    simp only [Bool.and_true, Bool.and_eq_false_iff, beq_eq_false_iff_ne]
    by_cases h0 : y0 = 0
    · by_cases h1 : y1 = 0
      · by_cases h2 : y2 = 0
        · by_cases h3 : y3 = 0
          · exact Or.inr (Or.inr (Or.inr (Or.inr (by intro h4; apply h; omega))))
          · exact Or.inr (Or.inr (Or.inr (Or.inl h3)))
        · exact Or.inr (Or.inr (Or.inl h2))
      · exact Or.inr (Or.inl h1)
    · exact Or.inl h0
set_option maxHeartbeats 4000000 in
set_option maxRecDepth 100000 in
theorem isZero_nm (z : Nat) (n : Int) (w : World) (hz : Nm w z n) : Calls Try.prog 49 #[.pointer (some ⟨z, 0, none⟩)] w fun e w' => e = .returned (.bool (decide (n = 0))) ∧ Chg w w' [] := by
  have hge := numGuard5
  obtain ⟨x0, x1, x2, x3, x4, hz, ⟨l0, l1, l2, l3, l4⟩, hv⟩ := hz
  have k0 := hz.cell 0; have k1 := hz.cell 1; have k2 := hz.cell 2; have k3 := hz.cell 3; have k4 := hz.cell 4
  simp at k0 k1 k2 k3 k4
  have zl : z < w.heap.size := Blk.lt hz
  have N0 : NumAt (w.alloc (.cells #[.int .u64 x0, .int .u64 x1, .int .u64 x2, .int .u64 x3, .int .u64 x4] 79)) w.heap.size x0 x1 x2 x3 x4 := Blk.new w _ _
  go_enter Try.func49, Try.ntmps49
  go_wp2_with fail
  refine (reduce_any w.heap.size x0 x1 x2 x3 x4 _ N0 (lo_wo l0) (lo_wo l1) (lo_wo l2) (lo_wo l3) (lo_wo l4)).mono ?_
  rintro e w1 ⟨rfl, y0, y1, y2, y3, y4, hn, hg, hl, hv2⟩
  have heq := eq_num5 y0 y1 y2 y3 y4 0 0 0 0 0
  rw [zero5 hl (hv2.trans hv)] at heq
  obtain ⟨t, ht⟩ : ∃ t, decide (n = 0) = t := ⟨_, rfl⟩
  have HT : Hid (decide (n = 0) = t) := ht
  rw [ht] at heq
  have m0 := hn.cell 0; have m1 := hn.cell 1; have m2 := hn.cell 2; have m3 := hn.cell 3; have m4 := hn.cell 4
  simp at m0 m1 m2 m3 m4
  have C : Chg w w1 [] := ((Chg.refl w []).alloc _).new (Chg.of hg) (Nat.le_refl _)
  clear hn hg N0 k0 k1 k2 k3 k4 hz hl hv2 hv ht
  go_wp2_with fail
  go_ret
  exact ⟨by rw [HT.out]; rfl, C⟩
end Go.Proofs.Ytialljmkkichiab
