/- A Hasher that no call made: Write, Reset, Sum, Len, State; rimelaw03.nothing. -/
import Derived.Test.YtjcgjhncdaplcabDoorH25a
import Derived.Test.YtjcgjhncdaplcabDoorRowA
set_option linter.unusedVariables false
set_option linter.unusedSimpArgs false
set_option linter.unnecessarySimpa false
namespace Go.Proofs.YtjcgjhncdaplcabDoor
open Go.RowKit

/-- A pointer that is nil, or to a Hasher that is all zero. -/
def NH (w : World) (p : Option Addr) : Prop := p = none ∨ ∃ h, p = some ⟨h, 0, none⟩ ∧ Blk w h Tryd.zeroCells63 63
theorem NH.chg {w w' : World} {p : Option Addr} (h : NH w p) (hc : Chg w w' []) : NH w' p := by
  rcases h with h | ⟨h, e, b⟩
  · exact Or.inl h
  · exact Or.inr ⟨h, e, b.chg hc (by simp)⟩
theorem zmade : (Tryd.zeroCells63)[137]? = some (.bool false) := by kernel_rfl
theorem ztaken : (Tryd.zeroCells63)[136]? = some (.int .u64 0) := by kernel_rfl
theorem zMm : zM = mC (fun _ => 0) (.slice none 0 0) 0 := by kernel_rfl
theorem zM_one : zM.all (·.oneCell') = true := by kernel_rfl
theorem z64_one : z64.all (·.oneCell') = true := by kernel_rfl
theorem dGuard : Tryd.prog.eqGuardType Tryd.prog.depth 65 = false := by kernel_rfl
set_option maxHeartbeats 4000000 in
set_option maxRecDepth 100000 in
theorem WriteN_0 (pv : Option Addr) (kv cv : Nat) (w : World) : Calls Tryd.prog 7 #[.pointer none, .slice pv kv cv] w fun e w' => e = .returned (.tuple #[]) ∧ Chg w w' [] := by
  go_enter Tryd.func7, Tryd.ntmps7
  go_wp2_with fail
  first
    | (go_end0; exact ⟨rfl, Chg.refl _ _⟩)
    | (refine bodyPost_ret (results_none rfl _ _ _) rfl ?_; exact ⟨rfl, Chg.refl _ _⟩)
set_option maxHeartbeats 4000000 in
set_option maxRecDepth 100000 in
theorem WriteN_z (h : Nat) (pv : Option Addr) (kv cv : Nat) (w : World) (hh : Blk w h Tryd.zeroCells63 63) : Calls Tryd.prog 7 #[.pointer (some ⟨h, 0, none⟩), .slice pv kv cv] w fun e w' => e = .returned (.tuple #[]) ∧ Chg w w' [] := by
  have c1 := (hh.cell 136).trans ztaken
  have c2 := (hh.cell 137).trans zmade
  have hlt := hh.lt
  go_enter Tryd.func7, Tryd.ntmps7
  go_wp2_with fail
  first
    | (go_end0; exact ⟨rfl, Chg.refl _ _⟩)
    | (refine bodyPost_ret (results_none rfl _ _ _) rfl ?_; exact ⟨rfl, Chg.refl _ _⟩)
set_option maxHeartbeats 4000000 in
set_option maxRecDepth 100000 in
theorem ResetN_0 (w : World) : Calls Tryd.prog 42 #[.pointer none] w fun e w' => e = .returned (.tuple #[]) ∧ Chg w w' [] := by
  go_enter Tryd.func42, Tryd.ntmps42
  go_wp2_with fail
  first
    | (go_end0; exact ⟨rfl, Chg.refl _ _⟩)
    | (refine bodyPost_ret (results_none rfl _ _ _) rfl ?_; exact ⟨rfl, Chg.refl _ _⟩)
set_option maxHeartbeats 4000000 in
set_option maxRecDepth 100000 in
theorem ResetN_z (h : Nat) (w : World) (hh : Blk w h Tryd.zeroCells63 63) : Calls Tryd.prog 42 #[.pointer (some ⟨h, 0, none⟩)] w fun e w' => e = .returned (.tuple #[]) ∧ Chg w w' [] := by
  have c1 := (hh.cell 136).trans ztaken
  have c2 := (hh.cell 137).trans zmade
  have hlt := hh.lt
  go_enter Tryd.func42, Tryd.ntmps42
  go_wp2_with fail
  first
    | (go_end0; exact ⟨rfl, Chg.refl _ _⟩)
    | (refine bodyPost_ret (results_none rfl _ _ _) rfl ?_; exact ⟨rfl, Chg.refl _ _⟩)
set_option maxHeartbeats 4000000 in
set_option maxRecDepth 100000 in
theorem LenN_0 (w : World) : Calls Tryd.prog 43 #[.pointer none] w fun e w' => e = .returned (.int .u64 0) ∧ Chg w w' [] := by
  go_enter Tryd.func43, Tryd.ntmps43
  go_wp2_with fail
  go_ret
  exact ⟨rfl, Chg.refl _ _⟩
set_option maxHeartbeats 4000000 in
set_option maxRecDepth 100000 in
theorem LenN_z (h : Nat) (w : World) (hh : Blk w h Tryd.zeroCells63 63) : Calls Tryd.prog 43 #[.pointer (some ⟨h, 0, none⟩)] w fun e w' => e = .returned (.int .u64 0) ∧ Chg w w' [] := by
  have c1 := (hh.cell 136).trans ztaken
  have c2 := (hh.cell 137).trans zmade
  have hlt := hh.lt
  go_enter Tryd.func43, Tryd.ntmps43
  go_wp2_with fail
  go_ret
  exact ⟨rfl, Chg.refl _ _⟩
set_option maxHeartbeats 4000000 in
set_option maxRecDepth 100000 in
theorem SumN_0 (w : World) : Calls Tryd.prog 13 #[.pointer none] w fun e w' => e = .returned (.agg z64) ∧ Chg w w' [] := by
  have A := Blk.new w z64 65
  go_enter Tryd.func13, Tryd.ntmps13
  go_wp2_with (first | (refine gl_build (by rfl) 65 #[] rfl z64 (by kernel_rfl) ?_) | (refine wpList_store_row rfl 65 _ _ rfl w.heap.size z64 rfl rfl 65 _ A DInfo rfl z64_one ?_))
  exact bodyPost_ret (results_cell_row Tryd.results13 _ _ w.heap.size 65 z64 (0, 0) _ rfl (A.setRow _) Tryd.underlying65 rfl DInfo) rfl ⟨rfl, ((Chg.refl w []).alloc _).setRowNew (Nat.le_refl _) _⟩
set_option maxHeartbeats 4000000 in
set_option maxRecDepth 100000 in
theorem SumN_z (h : Nat) (w : World) (hh : Blk w h Tryd.zeroCells63 63) : Calls Tryd.prog 13 #[.pointer (some ⟨h, 0, none⟩)] w fun e w' => e = .returned (.agg z64) ∧ Chg w w' [] := by
  have c1 := (hh.cell 136).trans ztaken
  have c2 := (hh.cell 137).trans zmade
  have hlt := hh.lt
  have A := Blk.new w z64 65
  go_enter Tryd.func13, Tryd.ntmps13
  go_wp2_with (first | (refine gl_build (by rfl) 65 #[] rfl z64 (by kernel_rfl) ?_) | (refine wpList_store_row rfl 65 _ _ rfl w.heap.size z64 rfl rfl 65 _ A DInfo rfl z64_one ?_))
  exact bodyPost_ret (results_cell_row Tryd.results13 _ _ w.heap.size 65 z64 (0, 0) _ rfl (A.setRow _) Tryd.underlying65 rfl DInfo) rfl ⟨rfl, ((Chg.refl w []).alloc _).setRowNew (Nat.le_refl _) _⟩
set_option maxHeartbeats 4000000 in
set_option maxRecDepth 100000 in
theorem StateN_0 (w : World) : Calls Tryd.prog 8 #[.pointer none] w fun e w' => e = .returned (.agg zM) ∧ Chg w w' [] := by
  have A := Blk.new w zM 31
  go_enter Tryd.func8, Tryd.ntmps8
  go_wp2_with (first | (refine gl_build (by rfl) 31 #[] rfl zM (by kernel_rfl) ?_) | (refine wpList_store_row rfl 31 _ _ rfl w.heap.size zM rfl rfl 31 _ A MInfo rfl zM_one ?_))
  exact bodyPost_ret (results_cell_row Tryd.results8 _ _ w.heap.size 31 zM (0, 0) _ rfl (A.setRow _) Tryd.underlying31 rfl MInfo) rfl ⟨rfl, ((Chg.refl w []).alloc _).setRowNew (Nat.le_refl _) _⟩
set_option maxHeartbeats 4000000 in
set_option maxRecDepth 100000 in
theorem StateN_z (h : Nat) (w : World) (hh : Blk w h Tryd.zeroCells63 63) : Calls Tryd.prog 8 #[.pointer (some ⟨h, 0, none⟩)] w fun e w' => e = .returned (.agg zM) ∧ Chg w w' [] := by
  have c1 := (hh.cell 136).trans ztaken
  have c2 := (hh.cell 137).trans zmade
  have hlt := hh.lt
  have A := Blk.new w zM 31
  go_enter Tryd.func8, Tryd.ntmps8
  go_wp2_with (first | (refine gl_build (by rfl) 31 #[] rfl zM (by kernel_rfl) ?_) | (refine wpList_store_row rfl 31 _ _ rfl w.heap.size zM rfl rfl 31 _ A MInfo rfl zM_one ?_))
  exact bodyPost_ret (results_cell_row Tryd.results8 _ _ w.heap.size 31 zM (0, 0) _ rfl (A.setRow _) Tryd.underlying31 rfl MInfo) rfl ⟨rfl, ((Chg.refl w []).alloc _).setRowNew (Nat.le_refl _) _⟩
theorem Write_nh (p : Option Addr) (pv : Option Addr) (kv cv : Nat) (w : World) (h : NH w p) : Calls Tryd.prog 7 #[.pointer p, .slice pv kv cv] w fun e w' => e = .returned (.tuple #[]) ∧ Chg w w' [] := by
  rcases h with rfl | ⟨h, rfl, b⟩
  · exact WriteN_0 pv kv cv w
  · exact WriteN_z h pv kv cv w b
theorem Reset_nh (p : Option Addr) (w : World) (h : NH w p) : Calls Tryd.prog 42 #[.pointer p] w fun e w' => e = .returned (.tuple #[]) ∧ Chg w w' [] := by
  rcases h with rfl | ⟨h, rfl, b⟩
  · exact ResetN_0 w
  · exact ResetN_z h w b
theorem Len_nh (p : Option Addr) (w : World) (h : NH w p) : Calls Tryd.prog 43 #[.pointer p] w fun e w' => e = .returned (.int .u64 0) ∧ Chg w w' [] := by
  rcases h with rfl | ⟨h, rfl, b⟩
  · exact LenN_0 w
  · exact LenN_z h w b
theorem Sum_nh (p : Option Addr) (w : World) (h : NH w p) : Calls Tryd.prog 13 #[.pointer p] w fun e w' => e = .returned (.agg (yC 64 fun _ => 0)) ∧ Chg w w' [] := by
  rw [← zD]
  rcases h with rfl | ⟨h, rfl, b⟩
  · exact SumN_0 w
  · exact SumN_z h w b
theorem State_nh (p : Option Addr) (w : World) (h : NH w p) : Calls Tryd.prog 8 #[.pointer p] w fun e w' => e = .returned (.agg (mC (fun _ => 0) (.slice none 0 0) 0)) ∧ Chg w w' [] := by
  rw [← zMm]
  rcases h with rfl | ⟨h, rfl, b⟩
  · exact StateN_0 w
  · exact StateN_z h w b
set_option maxHeartbeats 4000000 in
set_option maxRecDepth 100000 in
theorem nothing_s (p : Option Addr) (pv : Option Addr) (kv cv : Nat) (w : World) (h : NH w p) : Calls Tryd.prog 15 #[.pointer p, .slice pv kv cv] w fun e w' => e = .returned (.bool true) ∧ Chg w w' [] := by
  have hge := dGuard
  have HW : Hid (∀ W, NH W p → Calls Tryd.prog 7 #[.pointer p, .slice pv kv cv] W fun e w' => e = .returned (.tuple #[]) ∧ Chg W w' []) := fun W h => Write_nh p pv kv cv W h
  have HR : Hid (∀ W, NH W p → Calls Tryd.prog 42 #[.pointer p] W fun e w' => e = .returned (.tuple #[]) ∧ Chg W w' []) := fun W h => Reset_nh p W h
  have HS : Hid (∀ W, NH W p → Calls Tryd.prog 13 #[.pointer p] W fun e w' => e = .returned (.agg (yC 64 fun _ => 0)) ∧ Chg W w' []) := fun W h => Sum_nh p W h
  have HL : Hid (∀ W, NH W p → Calls Tryd.prog 43 #[.pointer p] W fun e w' => e = .returned (.int .u64 0) ∧ Chg W w' []) := fun W h => Len_nh p W h
  have HT : Hid (∀ W, NH W p → Calls Tryd.prog 8 #[.pointer p] W fun e w' => e = .returned (.agg (mC (fun _ => 0) (.slice none 0 0) 0)) ∧ Chg W w' []) := fun W h => State_nh p W h
  have HM : Hid (∀ W, Calls Tryd.prog 44 #[.agg (mC (fun _ => 0) (.slice none 0 0) 0), .agg (mC (fun _ => 0) (.slice none 0 0) 0)] W fun e w' => e = .returned (.bool true) ∧ Chg W w' []) := fun W => sameMid_t (fun _ => 0) (fun _ => 0) (.slice none 0 0) (.slice none 0 0) 0 0 W (fun _ _ => by unfold U; decide) (Or.inl ⟨rfl, rfl⟩) (Or.inl ⟨rfl, rfl⟩)
  have BD : Hid (Tryd.prog.built 65 [] = some (yC 64 fun _ => 0)) := by show Tryd.prog.built 65 [] = some (yC 64 fun _ => 0); rw [← zD]; kernel_rfl
  have BM : Hid (Tryd.prog.built 31 [] = some (mC (fun _ => 0) (.slice none 0 0) 0)) := by show Tryd.prog.built 31 [] = some _; rw [← zMm]; kernel_rfl
  have heq := eq_dig (fun _ => 0) (fun _ => 0)
  rw [eqy_self] at heq
  obtain ⟨D, hD⟩ : ∃ D, (yC 64 fun _ => 0) = D := ⟨_, rfl⟩
  obtain ⟨M, hM⟩ : ∃ M, mC (fun _ => 0) (.slice none 0 0) 0 = M := ⟨_, rfl⟩
  rw [hD] at HS BD heq
  rw [hM] at HT HM BM
  clear hD hM
  have HP : Hid (∀ W, Chg w W [] → NH W p) := fun W hW => h.chg hW
  clear h
  have CC := Chg.refl w []
  go_enter Tryd.func15, Tryd.ntmps15
  go_wp2_with fail
  refine (HW.out _ (HP.out _ CC)).mono ?_
  rintro e w1 ⟨rfl, k⟩
  replace CC := CC.trans1 k
  clear k
  go_wp2_with fail
  refine (HR.out _ (HP.out _ CC)).mono ?_
  rintro e w2 ⟨rfl, k⟩
  replace CC := CC.trans1 k
  clear k
  go_wp2_with fail
  refine (HW.out _ (HP.out _ CC)).mono ?_
  rintro e w3 ⟨rfl, k⟩
  replace CC := CC.trans1 k
  clear k
  go_wp2_with fail
  refine (HS.out _ (HP.out _ CC)).mono ?_
  rintro e w4 ⟨rfl, k⟩
  replace CC := CC.trans1 k
  clear k
  go_wp2_with (refine gl_build (by rfl) 65 #[] rfl D (by simp only [List.map_toArray, List.map_nil]; exact BD.out) ?_)
  refine (HL.out _ (HP.out _ CC)).mono ?_
  rintro e w5 ⟨rfl, k⟩
  replace CC := CC.trans1 k
  clear k
  go_wp2_with fail
  refine (HT.out _ (HP.out _ CC)).mono ?_
  rintro e w6 ⟨rfl, k⟩
  replace CC := CC.trans1 k
  clear k
  go_wp2_with (refine gl_build (by rfl) 31 #[] rfl M (by simp only [List.map_toArray, List.map_nil]; exact BM.out) ?_)
  refine (HM.out _).mono ?_
  rintro e w7 ⟨rfl, k⟩
  replace CC := CC.trans1 k
  clear k
  go_wp2_with fail
  go_ret
  exact ⟨rfl, CC⟩
end Go.Proofs.YtjcgjhncdaplcabDoor
