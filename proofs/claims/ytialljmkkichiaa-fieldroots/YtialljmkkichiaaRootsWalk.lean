/- FieldRoots: the walk. -/
import Derived.Test.YtialljmkkichiaaRRootEq
set_option linter.unusedVariables false
set_option linter.unusedSimpArgs false
set_option linter.unnecessarySimpa false
namespace Go.Proofs.Ytialljmkkichiaa
open Go.RowKit N

set_option maxHeartbeats 16000000 in
set_option maxRecDepth 100000 in
theorem roots_walk (u v r : Int) (t : Bool) (w : World)
    (hF : ∀ w, Calls Try.prog 51 #[fe u, fe v] w fun e w' => e = .returned (.tuple #[fe r, .bool t]) ∧ Chg w w' []) (hR : ∀ w, Calls Try.prog 52 #[fe u, fe v] w fun e w' => e = .returned (.tuple #[fe r, .bool t]) ∧ Chg w w' []) :
    Calls Try.prog 7 #[fe u, fe v] w fun e w' => e = .returned (.bool true) ∧ Chg w w' [] := by
  have hge := feGuard
  have F0 : Blk ((w.alloc (.cells (feC u) 24)).alloc (.cells (feC v) 24)) w.heap.size (feC u) 24 := (Blk.new w (feC u) 24).alloc _
  have F1 : Blk ((w.alloc (.cells (feC u) 24)).alloc (.cells (feC v) 24)) (w.heap.size + 1) (feC v) 24 := by have h := Blk.new (w.alloc (.cells (feC u) 24)) (feC v) 24; simpa using h
  have CC : Chg w ((w.alloc (.cells (feC u) 24)).alloc (.cells (feC v) 24)) [] := ((Chg.refl w []).alloc (.cells (feC u) 24)).alloc (.cells (feC v) 24)
  go_enter Try.func7, Try.ntmps7
  go_wp2_with (first | (refine gl_load (by rfl) 24 _ rfl w.heap.size rfl 24 (feC u) _ F0 Try.underlying24 rfl feInfo ?_) | (refine gl_load (by rfl) 24 _ rfl (w.heap.size + 1) rfl 24 (feC v) _ F1 Try.underlying24 rfl feInfo ?_))
  refine (hF _).mono ?_
  rintro e y1 ⟨rfl, k⟩
  replace F0 := F0.chg k (by simp)
  replace F1 := F1.chg k (by simp)
  replace CC := CC.trans1 k
  clear k
  have sz : w.heap.size + 1 < y1.heap.size := F1.lt
  have AA : Blk (y1.alloc (.cells z32 24)) y1.heap.size z32 24 := Blk.new y1 z32 24
  replace F0 : Blk ((y1.alloc (.cells z32 24)).setRow y1.heap.size (feC r)) w.heap.size (feC u) 24 := (F0.alloc _).setRowOther (by omega) _
  replace F1 : Blk ((y1.alloc (.cells z32 24)).setRow y1.heap.size (feC r)) (w.heap.size + 1) (feC v) 24 := (F1.alloc _).setRowOther (by omega) _
  have F5 : Blk ((y1.alloc (.cells z32 24)).setRow y1.heap.size (feC r)) y1.heap.size (feC r) 24 := AA.setRow _
  replace CC : Chg w ((y1.alloc (.cells z32 24)).setRow y1.heap.size (feC r)) [] := (CC.alloc (.cells z32 24)).setRowNew CC.size _
  go_wp2_with (first | (refine wpList_store_row rfl 24 _ _ rfl y1.heap.size _ rfl rfl 24 _ AA feInfo rfl (feC_one _) ?_) | (refine gl_load (by rfl) 24 _ rfl w.heap.size rfl 24 (feC u) _ F0 Try.underlying24 rfl feInfo ?_) | (refine gl_load (by rfl) 24 _ rfl (w.heap.size + 1) rfl 24 (feC v) _ F1 Try.underlying24 rfl feInfo ?_))
  clear AA sz 
  refine (hR _).mono ?_
  rintro e y2 ⟨rfl, k⟩
  replace F0 := F0.chg k (by simp)
  replace F1 := F1.chg k (by simp)
  replace F5 := F5.chg k (by simp)
  replace CC := CC.trans1 k
  clear k
  have sz : w.heap.size + 1 < y2.heap.size := F1.lt
  have szF5 : y1.heap.size < y2.heap.size := F5.lt
  have AA : Blk (y2.alloc (.cells z32 24)) y2.heap.size z32 24 := Blk.new y2 z32 24
  replace F0 : Blk ((y2.alloc (.cells z32 24)).setRow y2.heap.size (feC r)) w.heap.size (feC u) 24 := (F0.alloc _).setRowOther (by omega) _
  replace F1 : Blk ((y2.alloc (.cells z32 24)).setRow y2.heap.size (feC r)) (w.heap.size + 1) (feC v) 24 := (F1.alloc _).setRowOther (by omega) _
  replace F5 : Blk ((y2.alloc (.cells z32 24)).setRow y2.heap.size (feC r)) y1.heap.size (feC r) 24 := (F5.alloc _).setRowOther (by omega) _
  have F7 : Blk ((y2.alloc (.cells z32 24)).setRow y2.heap.size (feC r)) y2.heap.size (feC r) 24 := AA.setRow _
  replace CC : Chg w ((y2.alloc (.cells z32 24)).setRow y2.heap.size (feC r)) [] := (CC.alloc (.cells z32 24)).setRowNew CC.size _
  go_wp2_with (first | (refine wpList_store_row rfl 24 _ _ rfl y2.heap.size _ rfl rfl 24 _ AA feInfo rfl (feC_one _) ?_) | (refine gl_load (by rfl) 24 _ rfl y1.heap.size rfl 24 (feC r) _ F5 Try.underlying24 rfl feInfo ?_) | (refine gl_load (by rfl) 24 _ rfl y2.heap.size rfl 24 (feC r) _ F7 Try.underlying24 rfl feInfo ?_))
  clear AA sz szF5
  clear F0 F1 F5 F7
  refine (D_fe _).mono ?_
  rintro e y3 ⟨rfl, k⟩
  replace CC := CC.trans1 k
  clear k
  go_wp2_with fail
  refine (D_r _).mono ?_
  rintro e y4 ⟨rfl, k⟩
  replace CC := CC.trans1 k
  clear k
  go_wp2_with fail
  refine (SqrtM1_fe _).mono ?_
  rintro e y5 ⟨rfl, k⟩
  replace CC := CC.trans1 k
  clear k
  go_wp2_with fail
  refine (SqrtM1_r _).mono ?_
  rintro e y6 ⟨rfl, k⟩
  replace CC := CC.trans1 k
  clear k
  go_wp2_with fail
  refine (alive_true _).mono ?_
  rintro e y7 ⟨rfl, k⟩
  replace CC := CC.trans1 k
  clear k
  go_wp2
  go_ret
  exact ⟨rfl, CC⟩
end Go.Proofs.Ytialljmkkichiaa
