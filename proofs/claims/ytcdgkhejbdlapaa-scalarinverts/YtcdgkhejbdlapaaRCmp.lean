/- rimeref02.Compare. -/
import Derived.Test.YtcdgkhejbdlapaaRFun
set_option linter.unusedVariables false
set_option linter.unusedSimpArgs false
set_option linter.unnecessarySimpa false
namespace Go.Proofs.Ytcdgkhejbdlapaa
open Go.RowKit N

set_option maxHeartbeats 4000000 in
set_option maxRecDepth 100000 in
theorem Compare_r (n m : Nat) (hn : n < 115792089237316195423570985008687907853269984665640564039457584007913129639936) (hm : m < 115792089237316195423570985008687907853269984665640564039457584007913129639936) (w : World) :
    Calls Try.prog 34 #[fe (n : Int), fe (m : Int)] w fun e w' => e = .returned (.int .i64 (cmpI ((n % LN : Nat) : Int) ((m % LN : Nat) : Int))) ∧ Chg w w' [] := by
  have hge := NumGuard
  have F0 : Blk ((w.alloc (.cells (feC (n : Int)) 24)).alloc (.cells (feC (m : Int)) 24)) w.heap.size (feC (n : Int)) 24 := (Blk.new w (feC (n : Int)) 24).alloc _
  have F1 : Blk ((w.alloc (.cells (feC (n : Int)) 24)).alloc (.cells (feC (m : Int)) 24)) (w.heap.size + 1) (feC (m : Int)) 24 := by have h := Blk.new (w.alloc (.cells (feC (n : Int)) 24)) (feC (m : Int)) 24; simpa using h
  have CC : Chg w ((w.alloc (.cells (feC (n : Int)) 24)).alloc (.cells (feC (m : Int)) 24)) [] := ((Chg.refl w []).alloc _).alloc _
  obtain ⟨X, hX⟩ : ∃ X, n % LN = X := ⟨_, rfl⟩
  obtain ⟨Y, hY⟩ : ∃ Y, m % LN = Y := ⟨_, rfl⟩
  have lX : X < 115792089237316195423570985008687907853269984665640564039457584007913129639936 := by rw [← hX]; exact modL_lt n
  have lY : Y < 115792089237316195423570985008687907853269984665640564039457584007913129639936 := by rw [← hY]; exact modL_lt m
  have eX : eqD X Y = decide (X = Y) := eqD_eq lX lY
  rw [hX, hY]
  have HX : Hid (n % LN = X) := hX
  have HY : Hid (m % LN = Y) := hY
  clear hX hY
  go_enter Try.func34, Try.ntmps34
  go_wp2_with (refine wpList_load_row rfl 24 _ rfl w.heap.size rfl 24 _ (0, 0) _ F0 Try.underlying24 rfl feInfo ?_)
  refine (Value_r n hn _).mono ?_
  rintro e v1 ⟨rfl, k⟩
  rw [HX.out]
  have sz1 : w.heap.size + 1 < v1.heap.size := (F1.chg k (by simp)).lt
  replace F1 : Blk ((v1.alloc (.cells z8u 97)).setRow v1.heap.size (dC X)) (w.heap.size + 1) (feC (m : Int)) 24 := ((F1.chg k (by simp)).alloc (.cells z8u 97)).setRowOther (by omega) _
  have A := Blk.new v1 z8u 97
  have A' : Blk ((v1.alloc (.cells z8u 97)).setRow v1.heap.size (dC X)) v1.heap.size (dC X) 97 := A.setRow _
  replace CC : Chg w ((v1.alloc (.cells z8u 97)).setRow v1.heap.size (dC X)) [] := ((CC.trans1 k).alloc (.cells z8u 97)).setRowNew (by omega) _
  clear F0 k
  go_wp2_with (first | (refine wpList_store_row rfl 97 _ _ rfl v1.heap.size _ rfl rfl 97 _ A NumInfo rfl (dC_one _) ?_) | (refine wpList_load_row rfl 24 _ rfl (w.heap.size + 1) rfl 24 _ (0, 0) _ F1 Try.underlying24 rfl feInfo ?_))
  refine (Value_r m hm _).mono ?_
  rintro e v2 ⟨rfl, k⟩
  rw [HY.out]
  have szx : v1.heap.size < v2.heap.size := (A'.chg k (by simp)).lt
  replace A' : Blk ((v2.alloc (.cells z8u 97)).setRow v2.heap.size (dC Y)) v1.heap.size (dC X) 97 := ((A'.chg k (by simp)).alloc (.cells z8u 97)).setRowOther (by omega) _
  have D := Blk.new v2 z8u 97
  have D' : Blk ((v2.alloc (.cells z8u 97)).setRow v2.heap.size (dC Y)) v2.heap.size (dC Y) 97 := D.setRow _
  replace CC : Chg w ((v2.alloc (.cells z8u 97)).setRow v2.heap.size (dC Y)) [] := ((CC.trans1 k).alloc (.cells z8u 97)).setRowNew (by omega) _
  clear A F1 k HX HY
  go_wp2_with (first | (refine wpList_store_row rfl 97 _ _ rfl v2.heap.size _ rfl rfl 97 _ D NumInfo rfl (dC_one _) ?_) | (refine wpList_load_row rfl 97 _ rfl v1.heap.size rfl 97 _ (0, 0) _ A' Try.underlying97 rfl NumInfo ?_) | (refine wpList_load_row rfl 97 _ rfl v2.heap.size rfl 97 _ (0, 0) _ D' Try.underlying97 rfl NumInfo ?_))
  refine (below_r X Y lX lY _).mono ?_
  rintro e v3 ⟨rfl, k⟩
  replace A' := A'.chg k (by simp)
  replace D' := D'.chg k (by simp)
  replace CC := CC.trans1 k
  clear k D
  by_cases h : X < Y
  · rw [decide_eq_true h]
    have hr : Hid (cmpI (X : Int) (Y : Int) = -1) := by show cmpI (X : Int) (Y : Int) = -1; unfold cmpI; rw [if_pos (by omega)]
    go_wp2_with fail
    go_ret
    exact ⟨by rw [hr.out]; rfl, CC⟩
  · rw [decide_eq_false h]
    by_cases h2 : X = Y
    · have hE : eqD X Y = true := by rw [eX]; exact decide_eq_true h2
      have hr : Hid (cmpI (X : Int) (Y : Int) = 0) := by show cmpI (X : Int) (Y : Int) = 0; unfold cmpI; rw [if_neg (by omega), if_pos (by omega)]
      clear h2 eX
      go_wp2_with (first | (refine wpList_load_row rfl 97 _ rfl v1.heap.size rfl 97 _ (0, 0) _ A' Try.underlying97 rfl NumInfo ?_) | (refine wpList_load_row rfl 97 _ rfl v2.heap.size rfl 97 _ (0, 0) _ D' Try.underlying97 rfl NumInfo ?_))
      go_ret
      exact ⟨by rw [hr.out]; rfl, CC⟩
    · have hE : eqD X Y = false := by rw [eX]; exact decide_eq_false h2
      have hr : Hid (cmpI (X : Int) (Y : Int) = 1) := by show cmpI (X : Int) (Y : Int) = 1; unfold cmpI; rw [if_neg (by omega), if_neg (by omega)]
      clear h2 eX
      go_wp2_with (first | (refine wpList_load_row rfl 97 _ rfl v1.heap.size rfl 97 _ (0, 0) _ A' Try.underlying97 rfl NumInfo ?_) | (refine wpList_load_row rfl 97 _ rfl v2.heap.size rfl 97 _ (0, 0) _ D' Try.underlying97 rfl NumInfo ?_))
      go_ret
      exact ⟨by rw [hr.out]; rfl, CC⟩
end Go.Proofs.Ytcdgkhejbdlapaa
