/- rimeref02.Power of nil and of bytes; the two ways' answers are the same. -/
import Derived.Test.YtcdgkhejbdlapaaRLeg
import Derived.Test.YtcdgkhejbdlapaaGivI
set_option linter.unusedVariables false
set_option linter.unusedSimpArgs false
set_option linter.unnecessarySimpa false
namespace Go.Proofs.Ytcdgkhejbdlapaa
open Go.RowKit N

set_option maxHeartbeats 16000000 in
set_option maxRecDepth 100000 in
theorem Power_rnil (n : Nat) (hn : n < 115792089237316195423570985008687907853269984665640564039457584007913129639936) (w : World) :
    Calls Try.prog 42 #[fe (n : Int), .slice none 0 0] w fun e w' => e = .returned (fe ((pN n 0 : Nat) : Int)) ∧ Chg w w' [] := by
  have F0 : Blk ((w.alloc (.cells (feC (n : Int)) 24)).alloc (.cells z32 24)) w.heap.size (feC (n : Int)) 24 := (Blk.new w (feC (n : Int)) 24).alloc _
  have F1 : Blk ((w.alloc (.cells (feC (n : Int)) 24)).alloc (.cells z32 24)) (w.heap.size + 1) z32 24 := by have h := Blk.new (w.alloc (.cells (feC (n : Int)) 24)) z32 24; simpa using h
  have CC : Chg w ((w.alloc (.cells (feC (n : Int)) 24)).alloc (.cells z32 24)) [] := ((Chg.refl w []).alloc _).alloc _
  obtain ⟨X, hX⟩ : ∃ X, n % LN = X := ⟨_, rfl⟩
  have lX : X < 115792089237316195423570985008687907853269984665640564039457584007913129639936 := by rw [← hX]; exact modL_lt n
  have HX : Hid (n % LN = X) := hX
  clear hX
  go_enter Try.func42, Try.ntmps42
  go_wp2_with (refine wpList_load_row rfl 24 _ rfl w.heap.size rfl 24 _ (0, 0) _ F0 Try.underlying24 rfl feInfo ?_)
  refine (Value_r n hn _).mono ?_
  rintro e v1 ⟨rfl, k⟩
  rw [HX.out]
  have sz1 : w.heap.size + 1 < v1.heap.size := (F1.chg k (by simp)).lt
  have A := Blk.new v1 z8u 97
  have D : Blk (((v1.alloc (.cells z8u 97)).setRow v1.heap.size (dC X)).alloc (.cells z8u 97)) (v1.heap.size + 1) z8u 97 := by have h := Blk.new ((v1.alloc (.cells z8u 97)).setRow v1.heap.size (dC X)) z8u 97; simpa using h
  have KS : Chg v1 ((((v1.alloc (.cells z8u 97)).setRow v1.heap.size (dC X)).alloc (.cells z8u 97)).setRow (v1.heap.size + 1) (dC 1)) [] := ((((Chg.refl v1 []).alloc (.cells z8u 97)).setRowNew (Nat.le_refl _) (dC X)).alloc (.cells z8u 97)).setRowNew (by omega) (dC 1)
  have A' : Blk ((((v1.alloc (.cells z8u 97)).setRow v1.heap.size (dC X)).alloc (.cells z8u 97)).setRow (v1.heap.size + 1) (dC 1)) v1.heap.size (dC X) 97 := ((A.setRow _).alloc _).setRowOther (by omega) _
  have D' : Blk ((((v1.alloc (.cells z8u 97)).setRow v1.heap.size (dC X)).alloc (.cells z8u 97)).setRow (v1.heap.size + 1) (dC 1)) (v1.heap.size + 1) (dC 1) 97 := D.setRow _
  replace F1 := (F1.chg k (by simp)).chg KS (by simp)
  replace CC := (CC.trans1 k).trans1 KS
  clear F0 k KS
  go_wp2_with (first | (refine wpList_store_row rfl 97 _ _ rfl v1.heap.size _ rfl rfl 97 _ A NumInfo rfl (dC_one _) ?_) | (refine gl_build (by rfl) 97 #[(0, .const (.int .u32 1))] rfl (dC 1) (by kernel_rfl) ?_) | (refine wpList_store_row rfl 97 _ _ rfl (v1.heap.size + 1) _ rfl rfl 97 _ D NumInfo rfl (dC_one _) ?_))
  clear A D
  generalize hv2 : ((((v1.alloc (.cells z8u 97)).setRow v1.heap.size (dC X)).alloc (.cells z8u 97)).setRow (v1.heap.size + 1) (dC 1)) = v2 at F1 A' D' CC
  try (change Code.wp _ _ _ _ ((((v1.alloc (.cells z8u 97)).setRow v1.heap.size (dC X)).alloc (.cells z8u 97)).setRow (v1.heap.size + 1) (dC 1)); rw [hv2])
  clear hv2
  generalize v1.heap.size = gx at *
  rw [← pN_zero n] at D'
  go_loopw [7] (fun t wr => t = .int .i64 (-1) ∧ Blk wr (gx + 1) (dC (pN n 0)) 97 ∧ Blk wr (w.heap.size + 1) z32 24 ∧ Chg w wr []) (fun t _ => 0)
  case atStart => exact ⟨rfl, D', F1, CC⟩
  case round =>
    obtain ⟨rfl, r0, r2, r4⟩ := hrel
    clear A' D' F1 CC
    go_wp2_with (refine wpList_load_row rfl 97 _ rfl (gx + 1) rfl 97 _ (0, 0) _ r0 Try.underlying97 rfl (by first | exact NumInfo | (rw [dC_size]; exact NumInfo)) ?_)
    refine (Back_r _ _).mono ?_
    rintro e v3 ⟨rfl, k⟩
    replace r2 := r2.chg k (by simp)
    replace r4 := r4.trans1 k
    go_wp2_with (refine wpList_store_row rfl 24 _ _ rfl (w.heap.size + 1) _ rfl rfl 24 _ r2 feInfo rfl (feC_one _) ?_)
    exact bodyPost_ret (results_cell_row Try.results42 _ _ (w.heap.size + 1) 24 (feC ((pN n 0 : Nat) : Int)) (0, 0) _ rfl (Blk.setRow r2 _) Try.underlying24 rfl feInfo) rfl ⟨rfl, r4.setRowNew (by omega) _⟩

theorem Power_rs (m : Nat) (hm : m < 115792089237316195423570985008687907853269984665640564039457584007913129639936) (v : Value) (n : Nat) (f : Nat → Nat) (hn : n ≤ 140737488355328) (w : World) (hS : Sl w v n f) :
    Calls Try.prog 42 #[fe (m : Int), v] w fun e w' => e = .returned (fe ((pN m (nb f 0 n) : Nat) : Int)) ∧ Chg w w' [] := by
  rcases hS with ⟨rfl, rfl⟩ | ⟨g, o, cap, rfl, _, _, hb⟩
  · exact Power_rnil m hm w
  · exact Power_r m hm g o n cap f hn w hb
theorem pI (n e : Nat) : ((pN n e : Nat) : Int) = pw (n : Int) e := by unfold pN pw; rw [Int.natCast_emod, Int.natCast_pow, LN_eq]
theorem eqn_eqf {x : Int} (h : RL x) (y : Int) (hy : RL y) : eqn x y = eqf x y := by rw [eqn_eq h hy, eqf_eq (r256_rl h) (r256_rl hy)]
theorem leg_lgr (n : Nat) : lgr ((pN n 3618502788666131106986593281521497120428558179689953803000975469142727125494 : Nat) : Int) = leg (n : Int) := by
  unfold lgr leg
  rw [pI, eqn_eqf (pw_rl _ _) 0 ⟨by decide, by decide⟩, eqn_eqf (pw_rl _ _) 1 ⟨by decide, by decide⟩]
theorem bs_yC {w : World} {o m n : Nat} {F : Nat → Nat} {T : TypeId} (h : Blk w o (yC m F) T) (hn : n ≤ m) (hF : ∀ i, i < n → F i < 256) : Bs w o 0 n F :=
  ⟨h.lt, hF, fun i hi => by rw [Nat.zero_add, h.cell, yC_get _ _ _ (by omega)]⟩
theorem gvf_lt2 {f : Nat → Nat} {n : Nat} (hf : ∀ i, i < n → f i < 256) (i : Nat) : gvf f n i < 256 := by
  unfold gvf
  split
  · exact hf i (by assumption)
  · exact mkb_lt i
theorem nb_gvf (f : Nat → Nat) (n : Nat) : nb (gvf f n) 0 n = nb f 0 n := nb_congr _ _ n 0 (fun i _ hi => if_pos (by omega))
theorem gC_lit : gC (.slice none 0 0) (.slice none 0 0) = #[.slice none 0 0, .slice none 0 0, .slice none 0 0, .slice none 0 0, .slice none 0 0, .slice none 0 0, .slice none 0 0, .slice none 0 0, .slice none 0 0, .slice none 0 0, .slice none 0 0, .slice none 0 0, .slice none 0 0, .slice none 0 0, .slice none 0 0, .slice none 0 0, .slice none 0 0, .slice none 0 0, .slice none 0 0, .slice none 0 0, .slice none 0 0, .slice none 0 0, .slice none 0 0, .slice none 0 0, .slice none 0 0, .slice none 0 0, .slice none 0 0, .slice none 0 0, .slice none 0 0, .slice none 0 0] := by kernel_rfl
end Go.Proofs.Ytcdgkhejbdlapaa
