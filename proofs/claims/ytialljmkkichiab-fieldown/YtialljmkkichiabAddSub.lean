/- (*number).add, (*number).sub. -/
import Derived.Test.YtialljmkkichiabCarry
set_option linter.unusedVariables false
set_option linter.unusedSimpArgs false
set_option linter.unnecessarySimpa false
namespace Go.Proofs.Ytialljmkkichiab
open Go.RowKit N

set_option maxHeartbeats 8000000 in
set_option maxRecDepth 100000 in
theorem add_any (z x y : Nat) (a0 a1 a2 a3 a4 b0 b1 b2 b3 b4 c0 c1 c2 c3 c4 : Int) (w : World) (hz : NumAt w z c0 c1 c2 c3 c4) (hx : NumAt w x a0 a1 a2 a3 a4) (hy : NumAt w y b0 b1 b2 b3 b4)
    (la0 : Lo a0) (la1 : Lo a1) (la2 : Lo a2) (la3 : Lo a3) (la4 : Lo a4) (lb0 : Lo b0) (lb1 : Lo b1) (lb2 : Lo b2) (lb3 : Lo b3) (lb4 : Lo b4) :
    Calls Try.prog 37 #[.pointer (some ⟨z, 0, none⟩), .pointer (some ⟨x, 0, none⟩), .pointer (some ⟨y, 0, none⟩)] w fun e w' => e = .returned (.tuple #[]) ∧
      ∃ y0 y1 y2 y3 y4 : Int, NumAt w' z y0 y1 y2 y3 y4 ∧ w.grownBy w' (some z) ∧ (Lo y0 ∧ Lo y1 ∧ Lo y2 ∧ Lo y3 ∧ Lo y4) ∧ V y0 y1 y2 y3 y4 % P = (V a0 a1 a2 a3 a4 + V b0 b1 b2 b3 b4) % P := by
  have ka0 := hx.cell 0; have ka1 := hx.cell 1; have ka2 := hx.cell 2; have ka3 := hx.cell 3; have ka4 := hx.cell 4
  have kb0 := hy.cell 0; have kb1 := hy.cell 1; have kb2 := hy.cell 2; have kb3 := hy.cell 3; have kb4 := hy.cell 4
  have kc0 := hz.cell 0; have kc1 := hz.cell 1; have kc2 := hz.cell 2; have kc3 := hz.cell 3; have kc4 := hz.cell 4
  simp at ka0 ka1 ka2 ka3 ka4 kb0 kb1 kb2 kb3 kb4 kc0 kc1 kc2 kc3 kc4
  have f0 := hz.frozen 0; have f1 := hz.frozen 1; have f2 := hz.frozen 2; have f3 := hz.frozen 3; have f4 := hz.frozen 4
  obtain ⟨pa0, qa0⟩ := la0; obtain ⟨pa1, qa1⟩ := la1; obtain ⟨pa2, qa2⟩ := la2; obtain ⟨pa3, qa3⟩ := la3; obtain ⟨pa4, qa4⟩ := la4
  obtain ⟨pb0, qb0⟩ := lb0; obtain ⟨pb1, qb1⟩ := lb1; obtain ⟨pb2, qb2⟩ := lb2; obtain ⟨pb3, qb3⟩ := lb3; obtain ⟨pb4, qb4⟩ := lb4
  clear hx hy
  go_enter Try.func37, Try.ntmps37
  go_wp2_with fail
  go_region
  go_wp2_with fail
  go_region
  go_wp2_with fail
  go_region
  go_wp2_with fail
  go_region
  go_wp2_with fail
  go_region
  go_wp2_with fail
  refine (carry_ex z (a0 + b0) (a1 + b1) (a2 + b2) (a3 + b3) (a4 + b4) _ ?_ ⟨by omega, by omega⟩ ⟨by omega, by omega⟩ ⟨by omega, by omega⟩ ⟨by omega, by omega⟩ ⟨by omega, by omega⟩).mono ?_
  · unfold NumAt at hz ⊢
    exact Blk.to (by (repeat (first | with_reducible assumption | with_reducible exact Blk.new _ _ _ | with_reducible apply Blk.drew | with_reducible apply Blk.drewN | with_reducible apply Blk.setCell | with_reducible apply Blk.alloc))) (by simp)
  rintro e w' ⟨rfl, y0, y1, y2, y3, y4, hn, hg, hl, hv, _, _⟩
  go_wp2
  go_end0
  refine ⟨rfl, y0, y1, y2, y3, y4, hn, gb_trans (by (repeat (first | with_reducible exact gb_refl _ _ | with_reducible assumption | with_reducible apply gb_drew | with_reducible apply gb_drewN | with_reducible apply gb_set | with_reducible apply gb_alloc))) hg, hl, ?_⟩
  rw [hv, add_val]

set_option maxHeartbeats 8000000 in
set_option maxRecDepth 100000 in
theorem sub_any (z x y : Nat) (a0 a1 a2 a3 a4 b0 b1 b2 b3 b4 c0 c1 c2 c3 c4 : Int) (w : World) (hz : NumAt w z c0 c1 c2 c3 c4) (hx : NumAt w x a0 a1 a2 a3 a4) (hy : NumAt w y b0 b1 b2 b3 b4)
    (la0 : Lo a0) (la1 : Lo a1) (la2 : Lo a2) (la3 : Lo a3) (la4 : Lo a4) (lb0 : Lo b0) (lb1 : Lo b1) (lb2 : Lo b2) (lb3 : Lo b3) (lb4 : Lo b4) :
    Calls Try.prog 39 #[.pointer (some ⟨z, 0, none⟩), .pointer (some ⟨x, 0, none⟩), .pointer (some ⟨y, 0, none⟩)] w fun e w' => e = .returned (.tuple #[]) ∧
      ∃ y0 y1 y2 y3 y4 : Int, NumAt w' z y0 y1 y2 y3 y4 ∧ w.grownBy w' (some z) ∧ (Lo y0 ∧ Lo y1 ∧ Lo y2 ∧ Lo y3 ∧ Lo y4) ∧ V y0 y1 y2 y3 y4 % P = (V a0 a1 a2 a3 a4 - V b0 b1 b2 b3 b4) % P := by
  have ka0 := hx.cell 0; have ka1 := hx.cell 1; have ka2 := hx.cell 2; have ka3 := hx.cell 3; have ka4 := hx.cell 4
  have kb0 := hy.cell 0; have kb1 := hy.cell 1; have kb2 := hy.cell 2; have kb3 := hy.cell 3; have kb4 := hy.cell 4
  have kc0 := hz.cell 0; have kc1 := hz.cell 1; have kc2 := hz.cell 2; have kc3 := hz.cell 3; have kc4 := hz.cell 4
  simp at ka0 ka1 ka2 ka3 ka4 kb0 kb1 kb2 kb3 kb4 kc0 kc1 kc2 kc3 kc4
  have f0 := hz.frozen 0; have f1 := hz.frozen 1; have f2 := hz.frozen 2; have f3 := hz.frozen 3; have f4 := hz.frozen 4
  obtain ⟨pa0, qa0⟩ := la0; obtain ⟨pa1, qa1⟩ := la1; obtain ⟨pa2, qa2⟩ := la2; obtain ⟨pa3, qa3⟩ := la3; obtain ⟨pa4, qa4⟩ := la4
  obtain ⟨pb0, qb0⟩ := lb0; obtain ⟨pb1, qb1⟩ := lb1; obtain ⟨pb2, qb2⟩ := lb2; obtain ⟨pb3, qb3⟩ := lb3; obtain ⟨pb4, qb4⟩ := lb4
  clear hx hy
  go_enter Try.func39, Try.ntmps39
  go_wp2_with fail
  go_region
  go_wp2_with fail
  go_region
  go_wp2_with fail
  go_region
  go_wp2_with fail
  go_region
  go_wp2_with fail
  go_region
  go_wp2_with fail
  refine (carry_ex z (a0 + 9007199254740916 - b0) (a1 + 9007199254740988 - b1) (a2 + 9007199254740988 - b2) (a3 + 9007199254740988 - b3) (a4 + 9007199254740988 - b4) _ ?_ ⟨by omega, by omega⟩ ⟨by omega, by omega⟩ ⟨by omega, by omega⟩ ⟨by omega, by omega⟩ ⟨by omega, by omega⟩).mono ?_
  · unfold NumAt at hz ⊢
    exact Blk.to (by (repeat (first | with_reducible assumption | with_reducible exact Blk.new _ _ _ | with_reducible apply Blk.drew | with_reducible apply Blk.drewN | with_reducible apply Blk.setCell | with_reducible apply Blk.alloc))) (by simp)
  rintro e w' ⟨rfl, y0, y1, y2, y3, y4, hn, hg, hl, hv, _, _⟩
  go_wp2
  go_end0
  refine ⟨rfl, y0, y1, y2, y3, y4, hn, gb_trans (by (repeat (first | with_reducible exact gb_refl _ _ | with_reducible assumption | with_reducible apply gb_drew | with_reducible apply gb_drewN | with_reducible apply gb_set | with_reducible apply gb_alloc))) hg, hl, ?_⟩
  rw [hv, sub_val, Int.add_mul_emod_self_left]
end Go.Proofs.Ytialljmkkichiab
