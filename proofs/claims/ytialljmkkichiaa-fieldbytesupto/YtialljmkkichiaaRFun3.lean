/- The document's answer: Legendre. -/
import Derived.Test.YtialljmkkichiaaRFun2
set_option linter.unusedVariables false
set_option linter.unusedSimpArgs false
set_option linter.unnecessarySimpa false
namespace Go.Proofs.Ytialljmkkichiaa
open Go.RowKit N

theorem z16_dC : z16 = dC 0 := by kernel_rfl
set_option maxHeartbeats 4000000 in
set_option maxRecDepth 100000 in
theorem Legendre_r (a : Int) (ra : R256 a) (lg : Int) (hlg : lg = leg a) (w : World) : Calls Try.prog 42 #[fe a] w fun e w' => e = .returned (.int .i64 lg) ∧ Chg w w' [] := by
  have hge := numGuard
  have F0 := Blk.new w (feC a) 24
  have C0 := (Chg.refl w []).alloc (.cells (feC a) 24)
  obtain ⟨p, hp⟩ : ∃ p, p = pwP (rd a) (exn 1 / 2 ^ 1) := ⟨_, rfl⟩
  have hp256 : p < 115792089237316195423570985008687907853269984665640564039457584007913129639936 := by rw [hp]; exact lt_256 _ (pwP_lt _ _)
  have hpi : pw a 28948022309329048855892746252171976963317496166410141009864396001978282409974 = ((p : Nat) : Int) := by
    rw [hp, rpw a ra.1]
    congr 1
  have e0 : eqn p 0 = decide (p = 0) := eqn_eq p 0 hp256 (by decide)
  have e1 : eqn p 1 = decide (p = 1) := eqn_eq p 1 hp256 (by decide)
  have hcase : (p = 0 ∧ lg = 0) ∨ (p = 1 ∧ lg = 1) ∨ (¬ p = 0 ∧ ¬ p = 1 ∧ lg = -1) := by
    rw [hlg]
    unfold leg
    rw [hpi]
    by_cases h0 : p = 0
    · left; exact ⟨h0, by rw [if_pos (by omega)]⟩
    · right
      by_cases h1 : p = 1
      · left; exact ⟨h1, by rw [if_neg (by omega), if_pos (by omega)]⟩
      · right; exact ⟨h0, h1, by rw [if_neg (by omega), if_neg (by omega)]⟩
  clear hlg hpi
  go_enter Try.func42, Try.ntmps42
  go_wp2_with (refine wpList_load_row rfl 24 _ rfl w.heap.size rfl 24 _ (0, 0) _ F0 Try.underlying24 rfl feInfo ?_)
  refine (Value_r a ra _).mono ?_
  rintro e v1 ⟨rfl, k⟩
  replace C0 := C0.trans1 k
  clear k F0
  go_wp2_with fail
  refine (exponent_r 1 1 (by decide) (by decide) _).mono ?_
  rintro e v2 ⟨g, rfl, hg, bg, k⟩
  replace C0 := C0.trans1 k
  clear k
  go_wp2_with fail
  refine (power_e (rd a) (rd256 a) g _ (ex_lt 1 1) _ bg).mono ?_
  rintro e v3 ⟨rfl, k⟩
  rw [← hp]
  replace C0 := C0.trans1 k
  clear k hp bg
  have A3 : Blk (v3.alloc (.cells z16 84)) v3.heap.size z16 84 := Blk.new v3 z16 84
  have B3 : Blk (((v3.alloc (.cells z16 84)).setRow v3.heap.size (dC p)).alloc (.cells o16 84)) v3.heap.size (dC p) 84 := (A3.setRow _).alloc _
  have B4 : Blk (((v3.alloc (.cells z16 84)).setRow v3.heap.size (dC p)).alloc (.cells o16 84)) (v3.heap.size + 1) (dC 1) 84 := Blk.to (by have h := Blk.new ((v3.alloc (.cells z16 84)).setRow v3.heap.size (dC p)) o16 84; simpa using h) o16_dC
  have CC : Chg w (((v3.alloc (.cells z16 84)).setRow v3.heap.size (dC p)).alloc (.cells o16 84)) [] := ((C0.alloc (.cells z16 84)).setRowNew C0.size _).alloc _
  rcases hcase with ⟨rfl, rfl⟩ | ⟨rfl, rfl⟩ | ⟨h0, h1, rfl⟩
  · replace e0 : eqn 0 0 = true := by rw [e0]; rfl
    clear e1
    go_wp2_with (first | (refine wpList_store_row rfl 84 _ _ rfl v3.heap.size _ rfl rfl 84 _ A3 (nInfo16 _) rfl (uC_one _ _) ?_) | (refine wpList_load_row rfl 84 _ rfl v3.heap.size rfl 84 _ (0, 0) _ B3 Try.underlying84 rfl (nInfo16 _) ?_) | (refine wpList_load_row rfl 84 _ rfl (v3.heap.size + 1) rfl 84 _ (0, 0) _ B4 Try.underlying84 rfl (nInfo16 _) ?_) | (refine wpList_build_fe rfl 84 #[] rfl (dC 0) (by kernel_rfl) ?_))
    go_ret
    exact ⟨rfl, CC⟩
  · replace e0 : eqn 1 0 = false := by rw [e0]; rfl
    replace e1 : eqn 1 1 = true := by rw [e1]; rfl
    go_wp2_with (first | (refine wpList_store_row rfl 84 _ _ rfl v3.heap.size _ rfl rfl 84 _ A3 (nInfo16 _) rfl (uC_one _ _) ?_) | (refine wpList_load_row rfl 84 _ rfl v3.heap.size rfl 84 _ (0, 0) _ B3 Try.underlying84 rfl (nInfo16 _) ?_) | (refine wpList_load_row rfl 84 _ rfl (v3.heap.size + 1) rfl 84 _ (0, 0) _ B4 Try.underlying84 rfl (nInfo16 _) ?_) | (refine wpList_build_fe rfl 84 #[] rfl (dC 0) (by kernel_rfl) ?_))
    go_ret
    exact ⟨rfl, CC⟩
  · replace e0 : eqn p 0 = false := by rw [e0]; exact decide_eq_false h0
    replace e1 : eqn p 1 = false := by rw [e1]; exact decide_eq_false h1
    go_wp2_with (first | (refine wpList_store_row rfl 84 _ _ rfl v3.heap.size _ rfl rfl 84 _ A3 (nInfo16 _) rfl (uC_one _ _) ?_) | (refine wpList_load_row rfl 84 _ rfl v3.heap.size rfl 84 _ (0, 0) _ B3 Try.underlying84 rfl (nInfo16 _) ?_) | (refine wpList_load_row rfl 84 _ rfl (v3.heap.size + 1) rfl 84 _ (0, 0) _ B4 Try.underlying84 rfl (nInfo16 _) ?_) | (refine wpList_build_fe rfl 84 #[] rfl (dC 0) (by kernel_rfl) ?_))
    go_ret
    exact ⟨rfl, CC⟩
end Go.Proofs.Ytialljmkkichiaa
