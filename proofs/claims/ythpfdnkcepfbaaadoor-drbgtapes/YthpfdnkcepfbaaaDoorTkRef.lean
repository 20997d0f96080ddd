/- rimeref02.Reduce, Canonical, FromInt, Decode. -/
import Derived.Test.YthpfdnkcepfbaaaDoorTkRed
import Derived.Test.YthpfdnkcepfbaaaDoorDecO
import Derived.Test.YthpfdnkcepfbaaaDoorPowW
set_option linter.unusedVariables false
set_option linter.unusedSimpArgs false
set_option linter.unnecessarySimpa false
namespace Go.Proofs.YthpfdnkcepfbaaaDoor
open Go.RowKit N

theorem by8_u64 (n i : Nat) (hi : i < 8) : ((n : Int) / 2 ^ (8 * i)) % 256 = by8 (n : Int) i := by
  unfold by8
  rw [show (256 : Int) ^ i = 2 ^ (8 * i) from by rw [Int.pow_mul]; rfl]
theorem by8_high (n i : Nat) (hn : n < 18446744073709551616) (hi : 8 ≤ i) : by8 (n : Int) i = 0 := by
  rw [by8_nat]
  have h : 256 ^ 8 ≤ 256 ^ i := Nat.pow_le_pow_right (by decide) hi
  rw [Nat.div_eq_of_lt (by omega)]
  rfl
theorem nb_gvf32 (f : Nat → Nat) : nb (gvf f 32) 0 32 = nb f 0 32 := nb_gvf f 32
theorem dX_gvf (n : Nat) (f : Nat → Nat) : dX n (gvf f n) = dX n f := by
  by_cases h : n = 32
  · subst h; unfold dX; rw [nb_gvf32]
  · rw [dX_len _ h, dX_len _ h]
theorem dE_gvf (n : Nat) (f : Nat → Nat) : dE n (gvf f n) = dE n f := by
  by_cases h : n = 32
  · subst h; unfold dE; rw [nb_gvf32]
  · rw [dE_len _ h, dE_len _ h]

set_option maxHeartbeats 8000000 in
set_option maxRecDepth 100000 in
theorem digits_nil (w : World) :
    Calls Tryd.prog 108 #[.slice none 0 0] w fun e w' => ∃ h, e = .returned (.slice (some ⟨h, 0, none⟩) 0 0) ∧ w.heap.size ≤ h ∧ Blk w' h (uC 0 fun _ => 0) 168 ∧ Chg w w' [] := by
  have hmk := mkU 0 (by omega)
  have B1 := Blk.new w (uC 0 fun _ => 0) 168
  have C0 := (Chg.refl w []).alloc (.cells (uC 0 fun _ => 0) 168)
  rw [show ((0 : Nat) : Int) = 0 from rfl] at hmk
  go_enter Tryd.func108, Tryd.ntmps108
  go_wp2_with fail
  clear hmk
  go_loopw [4] (fun t wr => t = .int .i64 0 ∧ Blk wr w.heap.size (uC 0 fun _ => 0) 168 ∧ Chg w wr []) (fun t _ => 0)
  case atStart => exact ⟨rfl, B1, C0⟩
  case round =>
    obtain ⟨rfl, b1, c0⟩ := hrel
    clear B1 C0
    go_wp2
    go_ret
    exact ⟨w.heap.size, rfl, Nat.le_refl _, b1, c0⟩
theorem digits_rs (v : Value) (n : Nat) (f : Nat → Nat) (hn : n ≤ 140737488355328) (w : World) (hS : Sl w v n f) :
    Calls Tryd.prog 108 #[v] w fun e w' => ∃ h, e = .returned (.slice (some ⟨h, 0, none⟩) ((n + 3) / 4) ((n + 3) / 4)) ∧ Us w' h 0 ((n + 3) / 4) (dfk f n) ∧ Chg w w' [] := by
  rcases hS with ⟨rfl, rfl⟩ | ⟨g, o, cap, rfl, _, _, hb⟩
  · refine (digits_nil w).mono ?_
    rintro e w' ⟨h, rfl, _, b, k⟩
    exact ⟨h, rfl, ⟨b.lt, fun i hi => by omega, fun i hi => by omega⟩, k⟩
  · refine (digits_r g o n cap f hn w hb).mono ?_
    rintro e w' ⟨h, rfl, _, b, k⟩
    exact ⟨h, rfl, Us.of b (fun i _ => dfk_lt _ _ _ (fun j hj => hb.bd j hj)), k⟩
attribute [local irreducible] nb LN
set_option maxHeartbeats 8000000 in
set_option maxRecDepth 100000 in
theorem Reduce_rs (v : Value) (n : Nat) (f : Nat → Nat) (hn : n ≤ 140737488355328) (w : World) (hS : Sl w v n f) (X : Nat) (hX : nb f 0 n % LN = X) :
    Calls Tryd.prog 71 #[v] w fun e w' => e = .returned (fe ((X : Nat) : Int)) ∧ Chg w w' [] := by
  have HX : Hid (nv (dfk f n) 0 ((n + 3) / 4) % LN = X) := by show nv (dfk f n) 0 ((n + 3) / 4) % LN = X; rw [nv_digits, hX]
  clear hX
  have F0 : Blk (w.alloc (.cells z32 86)) w.heap.size z32 86 := Blk.new w _ _
  have CC : Chg w (w.alloc (.cells z32 86)) [] := (Chg.refl w []).alloc _
  replace hS := hS.chg CC (hS.new _ (by simp))
  obtain ⟨m, hm⟩ : ∃ m, (n + 3) / 4 = m := ⟨_, rfl⟩
  have hml : m ≤ 140737488355328 := by omega
  go_enter Tryd.func71, Tryd.ntmps71
  go_wp2_with fail
  refine (digits_rs v n f hn _ hS).mono ?_
  rintro e v1 ⟨h, rfl, us, k⟩
  rw [hm] at us HX ⊢
  clear hm
  replace F0 := F0.chg k (by simp)
  replace CC := CC.trans1 k
  clear k
  go_wp2_with fail
  refine (mod_r h 0 m m _ hml _ us).mono ?_
  rintro e v2 ⟨rfl, k⟩
  rw [HX.out]
  replace F0 := F0.chg k (by simp)
  replace CC := CC.trans1 k
  clear k
  go_wp2_with fail
  refine (Back_r X _).mono ?_
  rintro e v3 ⟨rfl, k⟩
  replace F0 := F0.chg k (by simp)
  replace CC := CC.trans1 k
  clear k
  go_wp2_with (refine wpList_store_row rfl 86 _ _ rfl w.heap.size _ rfl rfl 86 _ F0 feInfo rfl (feC_one _) ?_)
  exact bodyPost_ret (results_cell_row Tryd.results71 _ _ w.heap.size 86 (feC (X : Int)) (0, 0) _ rfl (Blk.setRow F0 _) Tryd.underlying86 rfl feInfo) rfl ⟨rfl, CC.setRowNew (Nat.le_refl _) _⟩

end Go.Proofs.YthpfdnkcepfbaaaDoor
