/- WireNil: streams that are nil or zero, a fault that is nil; the walk. -/
import Derived.Test.YtjppbngimacgnaaGreatDoorW28
import Derived.Deep.DeepCutAuto
set_option linter.unusedVariables false
set_option linter.unusedSimpArgs false
set_option linter.unnecessarySimpa false
namespace Go.Proofs.YtjppbngimacgnaaGreatDoor
open Go.RowKit

def sStrm : ByteArray := ⟨#[115, 116, 114, 101, 97, 109]⟩
/-- A stream that no call made. -/
def zS : Array Value := #[.bool false, .int .i64 0, .int .i64 0, .slice none 0 0, .string ⟨#[]⟩, .int .i64 0, .int .i64 0]
theorem builtZS : Tryz.prog.built 29 [] = some zS := by kernel_rfl
theorem zeroRF : (Tryz.prog.info? 31).bind (·.zero) = some (.agg #[.string ⟨#[]⟩, .int .i64 0, .int .i64 0]) := by kernel_rfl
def BrA (w : World) (e : Ending) (w' : World) : Prop := ∃ g, e = .returned (.iface 22 (.pointer (some ⟨g, 0, none⟩))) ∧ Blk w' g (ftC sStrm 0 2) 27 ∧ Chg w w' []
def FeA (w : World) (e : Ending) (w' : World) : Prop := ∃ g, e = .returned (.tuple #[.slice none 0 0, .iface 22 (.pointer (some ⟨g, 0, none⟩))]) ∧ Blk w' g (ftC sStrm 0 2) 27 ∧ Chg w w' []
set_option maxHeartbeats 4000000 in
set_option maxRecDepth 100000 in
theorem broken_nil (w : World) : Calls Tryz.prog 11 #[.pointer none] w fun e w' => BrA w e w' := by
  go_enter Tryz.func11, Tryz.ntmps11
  go_wp2_with fail
  go_ret
  exact ⟨_, rfl, Blk.new _ _ _, (Chg.refl _ _).alloc _⟩
set_option maxHeartbeats 4000000 in
set_option maxRecDepth 100000 in
theorem broken_z (z : Nat) (w : World) (hz : Blk w z zS 29) : Calls Tryz.prog 11 #[.pointer (some ⟨z, 0, none⟩)] w fun e w' => BrA w e w' := by
  have c0 := hz.cell 0
  simp only [zS] at c0
  clear hz
  go_enter Tryz.func11, Tryz.ntmps11
  go_wp2_with fail
  go_ret
  exact ⟨_, rfl, Blk.new _ _ _, (Chg.refl _ _).alloc _⟩
set_option maxHeartbeats 4000000 in
set_option maxRecDepth 100000 in
theorem Feed_by (p v : Value) (w : World) (hb : Calls Tryz.prog 11 #[p] w fun e w' => BrA w e w') : Calls Tryz.prog 4 #[p, v] w fun e w' => FeA w e w' := by
  go_enter Tryz.func4, Tryz.ntmps4
  go_wp2_with fail
  refine hb.mono ?_
  rintro e w1 ⟨g, rfl, B, k⟩
  go_wp2_with fail
  go_ret2
  exact ⟨g, rfl, B, k⟩
set_option maxHeartbeats 4000000 in
set_option maxRecDepth 100000 in
theorem End_by (p : Value) (w : World) (hb : Calls Tryz.prog 11 #[p] w fun e w' => BrA w e w') : Calls Tryz.prog 9 #[p] w fun e w' => BrA w e w' := by
  go_enter Tryz.func9, Tryz.ntmps9
  go_wp2_with fail
  refine hb.mono ?_
  rintro e w1 ⟨g, rfl, B, k⟩
  go_wp2_with fail
  go_ret
  exact ⟨g, rfl, B, k⟩
set_option maxHeartbeats 4000000 in
set_option maxRecDepth 100000 in
theorem Left_nil (w : World) : Calls Tryz.prog 10 #[.pointer none] w fun e w' => e = .returned (.int .i64 0) ∧ Chg w w' [] := by
  go_enter Tryz.func10, Tryz.ntmps10
  go_wp2_with fail
  go_ret
  exact ⟨rfl, Chg.refl _ _⟩
set_option maxHeartbeats 4000000 in
set_option maxRecDepth 100000 in
theorem Left_z (z : Nat) (w : World) (hz : Blk w z zS 29) : Calls Tryz.prog 10 #[.pointer (some ⟨z, 0, none⟩)] w fun e w' => e = .returned (.int .i64 0) ∧ Chg w w' [] := by
  have c1 := hz.cell 1
  have c2 := hz.cell 2
  simp only [zS] at c1 c2
  clear hz
  go_enter Tryz.func10, Tryz.ntmps10
  go_wp2_with fail
  go_quiet (fail)
  go_wp2_with fail
  go_ret
  exact ⟨rfl, (Chg.refl _ _).drewN _⟩
set_option maxHeartbeats 4000000 in
set_option maxRecDepth 100000 in
theorem FaultError_nil (w : World) : Calls Tryz.prog 6 #[.pointer none] w fun e w' => e = .returned (.string ⟨#[]⟩) ∧ w' = w := by
  go_enter Tryz.func6, Tryz.ntmps6
  go_wp2_with fail
  go_ret
  exact ⟨rfl, rfl⟩
set_option maxHeartbeats 4000000 in
set_option maxRecDepth 100000 in
theorem Unwrap_nil (w : World) : Calls Tryz.prog 7 #[.pointer none] w fun e w' => e = .returned .nilIface ∧ w' = w := by
  go_enter Tryz.func7, Tryz.ntmps7
  go_wp2_with fail
  go_ret
  exact ⟨rfl, rfl⟩
set_option maxHeartbeats 4000000 in
set_option maxRecDepth 100000 in
theorem none_strm (a y : Nat) (w : World) : Calls Tryz.prog 19 #[.agg (ftC sStrm a y)] w fun e w' => e = .returned (.bool false) ∧ Chg w w' [] := by
  go_enter Tryz.func19, Tryz.ntmps19
  go_wp2_with (first
    | (refine box_w rfl 31 _ rfl (ftC sStrm a y) rfl ?_; intro bb w1 hbb BB k1; have c0 := BB.cell 0; simp only [ftC, sStrm] at c0))
  go_ret
  exact ⟨rfl, k1⟩
theorem it_0 : ItA 0 (strOfNums [48 + ((0 : Nat) : Int)]) := it_d 0 (by decide) (by kernel_rfl) (by decide)
theorem it_2 : ItA 2 (strOfNums [48 + ((2 : Nat) : Int)]) := it_d 2 (by decide) (by kernel_rfl) (by decide)
theorem fault_strm (g : Nat) (w : World) (h : Blk w g (ftC sStrm 0 2) 27) : Calls Tryz.prog 8 #[.iface 22 (.pointer (some ⟨g, 0, none⟩)), .agg (ftC sStrm 0 2)] w fun e w' => e = .returned (.bool true) ∧ Chg w w' [] :=
  fault_s g sStrm _ _ 0 2 (by decide) it_0 it_2 (fun W => dec_1 0 (by decide) W) (fun W => none_strm 0 2 W) w h
set_option maxHeartbeats 8000000 in
set_option maxRecDepth 100000 in
theorem nil_walk (w : World) (hG : Gl w) : Calls Tryz.prog 3 #[] w fun e w' => e = .returned (.bool true) ∧ Chg w w' [] := by
  have HG : Hid (Gl w) := hG
  clear hG
  go_enter Tryz.func3, Tryz.ntmps3
  go_upto_region 5 with (first
    | (refine store_w BM rfl 31 _ _ (ftC sStrm 0 2) rfl rfl rfl rFltInfo rfl (by simp [ftC, Value.oneCell']) ?_; intro w3 BM3 k3)
    | (with_reducible refine alloc_w rfl 31 rfl (.agg #[.string ⟨#[]⟩, .int .i64 0, .int .i64 0]) zeroRF #[.string ⟨#[]⟩, .int .i64 0, .int .i64 0] rfl ?_; intro mb w2 hmb BM k2)
    | (refine box_w rfl 29 _ rfl zS rfl ?_; intro zb w1 hzb BZ k1)
    | (with_reducible refine wpList_buildW ?_ 29 _ ?_ zS ?_ ?_
       · rfl
       · rfl
       · exact builtZS
       skip))
  have K3 : Chg w w3 [] := (k1.trans1 k2).new k3 (by have := k1.size; omega)
  have BZ3 := (BZ.chg k2 (by simp)).chg k3 (by have := BZ.lt; simp; omega)
  clear BZ BM k1 k2 k3 hmb hzb
  obtain ⟨wa, hwa⟩ : ∃ z, z = w3.alloc (.cells #[.int .u8 82, .int .u8 73, .int .u8 77, .int .u8 69] 5 (4, 5)) := ⟨_, rfl⟩
  have hcv : (convert 24 24 (.slice (some ⟨w3.heap.size, 0, none⟩) 4 4)).run Tryz.prog (w3.alloc (.cells #[.int .u8 82, .int .u8 73, .int .u8 77, .int .u8 69] 5)) = .ok (.slice (some ⟨w3.heap.size, 0, none⟩) 4 4) wa := by
    rw [hwa]; exact Lib.run_convert_bytes_const w3 24 5 _ 4 4 Tryz.underlying24 Tryz.underlying5
  have ka : Chg w3 wa [] := by rw [hwa]; exact (Chg.refl w3 []).alloc _
  clear hwa
  go_wp2_with fail
  refine (Feed_by _ _ wa (broken_nil wa)).mono ?_
  rintro e w4 ⟨gd, rfl, BD4, k4⟩
  have K4 := (K3.trans1 ka).trans1 k4
  have BZ4 := (BZ3.chg ka (by simp)).chg k4 (by simp)
  have BM4 := (BM3.chg ka (by simp)).chg k4 (by simp)
  clear hcv ka k4 K3 BZ3 BM3
  go_wp2_with fail
  refine (Feed_by _ _ w4 (broken_z zb w4 BZ4)).mono ?_
  rintro e w5 ⟨ge, rfl, BE5, k5⟩
  have K5 := K4.trans1 k5
  have BZ5 := BZ4.chg k5 (by simp)
  have BM5 := BM4.chg k5 (by simp)
  have BD5 := BD4.chg k5 (by simp)
  clear k5 K4 BZ4 BM4 BD4
  go_wp2_with fail
  refine lt_begin (fun w' => Blk w' mb (ftC sStrm 0 2) 31) (fun _ => false) (by kernel_rfl) ?_
  have hHeld := BM5.drew
  have C := K5.drew
  have BZ := BZ5.drew
  have BD := BD5.drew
  have BE := BE5.drew
  obtain ⟨z, hz⟩ : ∃ z, z = w5.drew := ⟨_, rfl⟩
  rw [← hz] at hHeld C BZ BD BE ⊢
  clear hz BM5 K5 BZ5 BD5 BE5
  refine lt_one 0 rfl (by kernel_rfl) rfl (fun K hK => ?_)
  go_simp
  refine (works_s _ (HG.out.chg C (by simp) (by simp))).mono ?_
  rintro e w' ⟨rfl, k⟩
  go_wp2_with fail
  refine hK.out _ _ (fun _ h => h.chg k (by simp)) ?_
  replace hHeld := hHeld.chg k (by simp)
  replace C := C.trans1 k
  replace BZ := BZ.chg k (by simp)
  replace BD := BD.chg k (by simp)
  replace BE := BE.chg k (by simp)
  clear k
  clear hK K
  try simp only [Act.put, List.setIfInBounds_toArray, List.set_cons_zero, List.set_cons_succ]
  refine lt_val (v := (.bool true)) 1 (some 25) rfl (by kernel_rfl) (by kernel_rfl) (by kernel_rfl) (fun _ _ _ h => h) rfl rfl (fun w => ?_) ?_
  · (go_simp; try with_reducible rfl)
  try simp only [Act.put, List.setIfInBounds_toArray, List.set_cons_zero, List.set_cons_succ]
  refine lt_val (v := ?_) 2 (some 26) rfl (by kernel_rfl) (by kernel_rfl) (by kernel_rfl) (fun _ _ _ h => h) rfl rfl (fun w => ?_) ?_
  rotate_left
  · (go_simp; try with_reducible rfl)
  try simp only [Act.put, List.setIfInBounds_toArray, List.set_cons_zero, List.set_cons_succ]
  refine lt_one 3 rfl (by kernel_rfl) rfl (fun K hK => ?_)
  go_simp
  refine (FaultError_nil _).mono ?_
  rintro e w' ⟨rfl, rfl⟩
  go_wp2_with fail
  refine hK.out _ _ (fun _ h => h) ?_
  clear hK K
  try simp only [Act.put, List.setIfInBounds_toArray, List.set_cons_zero, List.set_cons_succ]
  refine lt_val (v := (.bool true)) 4 (some 28) rfl (by kernel_rfl) (by kernel_rfl) (by kernel_rfl) (fun _ _ _ h => h) rfl rfl (fun w => ?_) ?_
  · (go_simp; try with_reducible rfl)
  try simp only [Act.put, List.setIfInBounds_toArray, List.set_cons_zero, List.set_cons_succ]
  refine lt_val (v := (.bool true)) 5 (some 29) rfl (by kernel_rfl) (by kernel_rfl) (by kernel_rfl) (fun _ _ _ h => h) rfl rfl (fun w => ?_) ?_
  · (go_simp; try with_reducible rfl)
  try simp only [Act.put, List.setIfInBounds_toArray, List.set_cons_zero, List.set_cons_succ]
  refine lt_val (v := (.bool true)) 6 (some 30) rfl (by kernel_rfl) (by kernel_rfl) (by kernel_rfl) (fun _ _ _ h => h) rfl rfl (fun w => ?_) ?_
  · (go_simp; try with_reducible rfl)
  try simp only [Act.put, List.setIfInBounds_toArray, List.set_cons_zero, List.set_cons_succ]
  refine lt_val (v := ?_) 7 (some 31) rfl (by kernel_rfl) (by kernel_rfl) (by kernel_rfl) (fun _ _ _ h => h) rfl rfl (fun w => ?_) ?_
  rotate_left
  · (go_simp; try with_reducible rfl)
  try simp only [Act.put, List.setIfInBounds_toArray, List.set_cons_zero, List.set_cons_succ]
  refine lt_one 8 rfl (by kernel_rfl) rfl (fun K hK => ?_)
  go_simp
  refine (Unwrap_nil _).mono ?_
  rintro e w' ⟨rfl, rfl⟩
  go_wp2_with fail
  refine hK.out _ _ (fun _ h => h) ?_
  clear hK K
  try simp only [Act.put, List.setIfInBounds_toArray, List.set_cons_zero, List.set_cons_succ]
  refine lt_val (v := (.bool true)) 9 (some 33) rfl (by kernel_rfl) (by kernel_rfl) (by kernel_rfl) (fun _ _ _ h => h) rfl rfl (fun w => ?_) ?_
  · (go_simp; try with_reducible rfl)
  try simp only [Act.put, List.setIfInBounds_toArray, List.set_cons_zero, List.set_cons_succ]
  refine lt_val (v := (.bool true)) 10 (some 34) rfl (by kernel_rfl) (by kernel_rfl) (by kernel_rfl) (fun _ _ _ h => h) rfl rfl (fun w => ?_) ?_
  · (go_simp; try with_reducible rfl)
  try simp only [Act.put, List.setIfInBounds_toArray, List.set_cons_zero, List.set_cons_succ]
  refine lt_val (v := (.bool true)) 11 (some 35) rfl (by kernel_rfl) (by kernel_rfl) (by kernel_rfl) (fun _ _ _ h => h) rfl rfl (fun w => ?_) ?_
  · (go_simp; try with_reducible rfl)
  try simp only [Act.put, List.setIfInBounds_toArray, List.set_cons_zero, List.set_cons_succ]
  refine lt_val (v := ?_) 12 (some 36) rfl (by kernel_rfl) (by kernel_rfl) (by kernel_rfl) (fun _ _ _ h => h) rfl rfl (fun w => ?_) ?_
  rotate_left
  · (go_simp; try with_reducible rfl)
  try simp only [Act.put, List.setIfInBounds_toArray, List.set_cons_zero, List.set_cons_succ]
  refine lt_val (v := (.int .i64 0)) 13 (some 37) rfl (by kernel_rfl) (by kernel_rfl) (by kernel_rfl) (fun _ _ _ h => h) rfl rfl (fun w => ?_) ?_
  · (go_simp; try with_reducible rfl)
  try simp only [Act.put, List.setIfInBounds_toArray, List.set_cons_zero, List.set_cons_succ]
  refine lt_val (v := ?_) 14 (some 38) rfl (by kernel_rfl) (by kernel_rfl) (by kernel_rfl) (fun _ _ _ h => h) rfl rfl (fun w => ?_) ?_
  rotate_left
  · (go_simp; try with_reducible rfl)
  try simp only [Act.put, List.setIfInBounds_toArray, List.set_cons_zero, List.set_cons_succ]
  refine lt_val (v := (.int .i64 0)) 15 (some 39) rfl (by kernel_rfl) (by kernel_rfl) (by kernel_rfl) (fun _ _ _ h => h) rfl rfl (fun w => ?_) ?_
  · (go_simp; try with_reducible rfl)
  try simp only [Act.put, List.setIfInBounds_toArray, List.set_cons_zero, List.set_cons_succ]
  refine lt_val (v := (.int .i64 0)) 16 (some 40) rfl (by kernel_rfl) (by kernel_rfl) (by kernel_rfl) (fun _ _ _ h => h) rfl rfl (fun w => ?_) ?_
  · (have hw0 : IntKind.i64.wrap 0 = 0 := (by decide); go_simp)
  try simp only [Act.put, List.setIfInBounds_toArray, List.set_cons_zero, List.set_cons_succ]
  refine lt_val (v := (.bool true)) 17 (some 41) rfl (by kernel_rfl) (by kernel_rfl) (by kernel_rfl) (fun _ _ _ h => h) rfl rfl (fun w => ?_) ?_
  · (go_simp; try with_reducible rfl)
  try simp only [Act.put, List.setIfInBounds_toArray, List.set_cons_zero, List.set_cons_succ]
  refine lt_val (v := (.bool true)) 18 (some 42) rfl (by kernel_rfl) (by kernel_rfl) (by kernel_rfl) (fun _ _ _ h => h) rfl rfl (fun w => ?_) ?_
  · (go_simp; try with_reducible rfl)
  try simp only [Act.put, List.setIfInBounds_toArray, List.set_cons_zero, List.set_cons_succ]
  refine lt_val (v := (.bool true)) 19 (some 43) rfl (by kernel_rfl) (by kernel_rfl) (by kernel_rfl) (fun _ _ _ h => h) rfl rfl (fun w => ?_) ?_
  · (go_simp; try with_reducible rfl)
  try simp only [Act.put, List.setIfInBounds_toArray, List.set_cons_zero, List.set_cons_succ]
  refine lt_val (v := ?_) 20 (some 44) rfl (by kernel_rfl) (by kernel_rfl) (by kernel_rfl) (fun _ _ _ h => h) rfl rfl (fun w => ?_) ?_
  rotate_left
  · (go_simp; try with_reducible rfl)
  try simp only [Act.put, List.setIfInBounds_toArray, List.set_cons_zero, List.set_cons_succ]
  refine lt_read (v := (.agg (ftC sStrm 0 2))) 21 (some 45) rfl (by kernel_rfl) (by kernel_rfl) (by kernel_rfl) (by kernel_rfl) (fun _ _ _ h => h) rfl rfl (fun w hSw => ?_) hHeld ?_
  · skip; exact (exec_load_m w 31 (.tmp 4) rfl mb 0 rfl (ftC sStrm 0 2).toList _ (fun j v hj => by rw [Nat.zero_add, hSw.cell]; simpa using hj) Tryz.underlying31 rfl rFltInfo)
  try simp only [Act.put, List.setIfInBounds_toArray, List.set_cons_zero, List.set_cons_succ]
  refine lt_one 22 rfl (by kernel_rfl) rfl (fun K hK => ?_)
  go_simp
  refine (fault_strm gd _ BD).mono ?_
  rintro e w' ⟨rfl, k⟩
  go_wp2_with fail
  refine hK.out _ _ (fun _ h => h.chg k (by simp)) ?_
  replace hHeld := hHeld.chg k (by simp)
  replace C := C.trans1 k
  replace BZ := BZ.chg k (by simp)
  replace BD := BD.chg k (by simp)
  replace BE := BE.chg k (by simp)
  clear k
  clear hK K
  try simp only [Act.put, List.setIfInBounds_toArray, List.set_cons_zero, List.set_cons_succ]
  refine lt_val (v := (.bool true)) 23 (some 47) rfl (by kernel_rfl) (by kernel_rfl) (by kernel_rfl) (fun _ _ _ h => h) rfl rfl (fun w => ?_) ?_
  · (go_simp; try with_reducible rfl)
  try simp only [Act.put, List.setIfInBounds_toArray, List.set_cons_zero, List.set_cons_succ]
  refine lt_val (v := (.bool true)) 24 (some 48) rfl (by kernel_rfl) (by kernel_rfl) (by kernel_rfl) (fun _ _ _ h => h) rfl rfl (fun w => ?_) ?_
  · (go_simp; try with_reducible rfl)
  try simp only [Act.put, List.setIfInBounds_toArray, List.set_cons_zero, List.set_cons_succ]
  refine lt_val (v := ?_) 25 (some 49) rfl (by kernel_rfl) (by kernel_rfl) (by kernel_rfl) (fun _ _ _ h => h) rfl rfl (fun w => ?_) ?_
  rotate_left
  · (go_simp; try with_reducible rfl)
  try simp only [Act.put, List.setIfInBounds_toArray, List.set_cons_zero, List.set_cons_succ]
  refine lt_read (v := (.agg (ftC sStrm 0 2))) 26 (some 50) rfl (by kernel_rfl) (by kernel_rfl) (by kernel_rfl) (by kernel_rfl) (fun _ _ _ h => h) rfl rfl (fun w hSw => ?_) hHeld ?_
  · skip; exact (exec_load_m w 31 (.tmp 4) rfl mb 0 rfl (ftC sStrm 0 2).toList _ (fun j v hj => by rw [Nat.zero_add, hSw.cell]; simpa using hj) Tryz.underlying31 rfl rFltInfo)
  try simp only [Act.put, List.setIfInBounds_toArray, List.set_cons_zero, List.set_cons_succ]
  refine lt_one 27 rfl (by kernel_rfl) rfl (fun K hK => ?_)
  go_simp
  refine (fault_strm ge _ BE).mono ?_
  rintro e w' ⟨rfl, k⟩
  go_wp2_with fail
  refine hK.out _ _ (fun _ h => h.chg k (by simp)) ?_
  replace hHeld := hHeld.chg k (by simp)
  replace C := C.trans1 k
  replace BZ := BZ.chg k (by simp)
  replace BD := BD.chg k (by simp)
  replace BE := BE.chg k (by simp)
  clear k
  clear hK K
  try simp only [Act.put, List.setIfInBounds_toArray, List.set_cons_zero, List.set_cons_succ]
  refine lt_val (v := (.bool true)) 28 (some 52) rfl (by kernel_rfl) (by kernel_rfl) (by kernel_rfl) (fun _ _ _ h => h) rfl rfl (fun w => ?_) ?_
  · (go_simp; try with_reducible rfl)
  try simp only [Act.put, List.setIfInBounds_toArray, List.set_cons_zero, List.set_cons_succ]
  refine lt_val (v := (.bool true)) 29 (some 53) rfl (by kernel_rfl) (by kernel_rfl) (by kernel_rfl) (fun _ _ _ h => h) rfl rfl (fun w => ?_) ?_
  · (go_simp; try with_reducible rfl)
  try simp only [Act.put, List.setIfInBounds_toArray, List.set_cons_zero, List.set_cons_succ]
  refine lt_val (v := ?_) 30 (some 54) rfl (by kernel_rfl) (by kernel_rfl) (by kernel_rfl) (fun _ _ _ h => h) rfl rfl (fun w => ?_) ?_
  rotate_left
  · (go_simp; try with_reducible rfl)
  try simp only [Act.put, List.setIfInBounds_toArray, List.set_cons_zero, List.set_cons_succ]
  refine lt_read (v := (.agg (ftC sStrm 0 2))) 32 (some 56) rfl (by kernel_rfl) (by kernel_rfl) (by kernel_rfl) (by kernel_rfl) (fun _ _ _ h => h) rfl rfl (fun w hSw => ?_) hHeld ?_
  · skip; exact (exec_load_m w 31 (.tmp 4) rfl mb 0 rfl (ftC sStrm 0 2).toList _ (fun j v hj => by rw [Nat.zero_add, hSw.cell]; simpa using hj) Tryz.underlying31 rfl rFltInfo)
  try simp only [Act.put, List.setIfInBounds_toArray, List.set_cons_zero, List.set_cons_succ]
  refine lt_one 31 rfl (by kernel_rfl) rfl (fun K hK => ?_)
  go_simp
  refine (End_by _ _ (broken_nil _)).mono ?_
  rintro e w' ⟨gn, rfl, BN, k⟩
  go_wp2_with fail
  refine hK.out _ _ (fun _ h => h.chg k (by simp)) ?_
  replace hHeld := hHeld.chg k (by simp)
  replace C := C.trans1 k
  replace BZ := BZ.chg k (by simp)
  replace BD := BD.chg k (by simp)
  replace BE := BE.chg k (by simp)
  clear k
  clear hK K
  try simp only [Act.put, List.setIfInBounds_toArray, List.set_cons_zero, List.set_cons_succ]
  refine lt_one 33 rfl (by kernel_rfl) rfl (fun K hK => ?_)
  go_simp
  refine (fault_strm gn _ BN).mono ?_
  rintro e w' ⟨rfl, k⟩
  go_wp2_with fail
  refine hK.out _ _ (fun _ h => h.chg k (by simp)) ?_
  replace hHeld := hHeld.chg k (by simp)
  replace C := C.trans1 k
  replace BZ := BZ.chg k (by simp)
  replace BD := BD.chg k (by simp)
  replace BE := BE.chg k (by simp)
  clear k
  clear hK K
  try simp only [Act.put, List.setIfInBounds_toArray, List.set_cons_zero, List.set_cons_succ]
  refine lt_val (v := (.bool true)) 34 (some 58) rfl (by kernel_rfl) (by kernel_rfl) (by kernel_rfl) (fun _ _ _ h => h) rfl rfl (fun w => ?_) ?_
  · (go_simp; try with_reducible rfl)
  try simp only [Act.put, List.setIfInBounds_toArray, List.set_cons_zero, List.set_cons_succ]
  refine lt_val (v := (.bool true)) 35 (some 59) rfl (by kernel_rfl) (by kernel_rfl) (by kernel_rfl) (fun _ _ _ h => h) rfl rfl (fun w => ?_) ?_
  · (go_simp; try with_reducible rfl)
  try simp only [Act.put, List.setIfInBounds_toArray, List.set_cons_zero, List.set_cons_succ]
  refine lt_val (v := ?_) 36 (some 60) rfl (by kernel_rfl) (by kernel_rfl) (by kernel_rfl) (fun _ _ _ h => h) rfl rfl (fun w => ?_) ?_
  rotate_left
  · (go_simp; try with_reducible rfl)
  try simp only [Act.put, List.setIfInBounds_toArray, List.set_cons_zero, List.set_cons_succ]
  refine lt_read (v := (.agg (ftC sStrm 0 2))) 38 (some 62) rfl (by kernel_rfl) (by kernel_rfl) (by kernel_rfl) (by kernel_rfl) (fun _ _ _ h => h) rfl rfl (fun w hSw => ?_) hHeld ?_
  · skip; exact (exec_load_m w 31 (.tmp 4) rfl mb 0 rfl (ftC sStrm 0 2).toList _ (fun j v hj => by rw [Nat.zero_add, hSw.cell]; simpa using hj) Tryz.underlying31 rfl rFltInfo)
  try simp only [Act.put, List.setIfInBounds_toArray, List.set_cons_zero, List.set_cons_succ]
  refine lt_one 37 rfl (by kernel_rfl) rfl (fun K hK => ?_)
  go_simp
  refine (End_by _ _ (broken_z zb _ BZ)).mono ?_
  rintro e w' ⟨gz, rfl, BQ, k⟩
  go_wp2_with fail
  refine hK.out _ _ (fun _ h => h.chg k (by simp)) ?_
  replace hHeld := hHeld.chg k (by simp)
  replace C := C.trans1 k
  replace BZ := BZ.chg k (by simp)
  replace BD := BD.chg k (by simp)
  replace BE := BE.chg k (by simp)
  clear k
  clear hK K
  try simp only [Act.put, List.setIfInBounds_toArray, List.set_cons_zero, List.set_cons_succ]
  refine lt_one 39 rfl (by kernel_rfl) rfl (fun K hK => ?_)
  go_simp
  refine (fault_strm gz _ BQ).mono ?_
  rintro e w' ⟨rfl, k⟩
  go_wp2_with fail
  refine hK.out _ _ (fun _ h => h.chg k (by simp)) ?_
  replace hHeld := hHeld.chg k (by simp)
  replace C := C.trans1 k
  replace BZ := BZ.chg k (by simp)
  replace BD := BD.chg k (by simp)
  replace BE := BE.chg k (by simp)
  clear k
  clear hK K
  try simp only [Act.put, List.setIfInBounds_toArray, List.set_cons_zero, List.set_cons_succ]
  refine lt_val (v := (.bool true)) 40 (some 64) rfl (by kernel_rfl) (by kernel_rfl) (by kernel_rfl) (fun _ _ _ h => h) rfl rfl (fun w => ?_) ?_
  · (go_simp; try with_reducible rfl)
  try simp only [Act.put, List.setIfInBounds_toArray, List.set_cons_zero, List.set_cons_succ]
  refine lt_val (v := (.bool true)) 41 (some 65) rfl (by kernel_rfl) (by kernel_rfl) (by kernel_rfl) (fun _ _ _ h => h) rfl rfl (fun w => ?_) ?_
  · (go_simp; try with_reducible rfl)
  try simp only [Act.put, List.setIfInBounds_toArray, List.set_cons_zero, List.set_cons_succ]
  refine lt_val (v := ?_) 42 (some 66) rfl (by kernel_rfl) (by kernel_rfl) (by kernel_rfl) (fun _ _ _ h => h) rfl rfl (fun w => ?_) ?_
  rotate_left
  · (go_simp; try with_reducible rfl)
  try simp only [Act.put, List.setIfInBounds_toArray, List.set_cons_zero, List.set_cons_succ]
  refine lt_one 43 rfl (by kernel_rfl) rfl (fun K hK => ?_)
  go_simp
  refine (Left_nil _).mono ?_
  rintro e w' ⟨rfl, k⟩
  go_wp2_with fail
  refine hK.out _ _ (fun _ h => h.chg k (by simp)) ?_
  replace hHeld := hHeld.chg k (by simp)
  replace C := C.trans1 k
  replace BZ := BZ.chg k (by simp)
  replace BD := BD.chg k (by simp)
  replace BE := BE.chg k (by simp)
  clear k
  clear hK K
  try simp only [Act.put, List.setIfInBounds_toArray, List.set_cons_zero, List.set_cons_succ]
  refine lt_val (v := (.bool true)) 44 (some 68) rfl (by kernel_rfl) (by kernel_rfl) (by kernel_rfl) (fun _ _ _ h => h) rfl rfl (fun w => ?_) ?_
  · (go_simp; try with_reducible rfl)
  try simp only [Act.put, List.setIfInBounds_toArray, List.set_cons_zero, List.set_cons_succ]
  refine lt_val (v := (.bool true)) 45 (some 69) rfl (by kernel_rfl) (by kernel_rfl) (by kernel_rfl) (fun _ _ _ h => h) rfl rfl (fun w => ?_) ?_
  · (go_simp; try with_reducible rfl)
  try simp only [Act.put, List.setIfInBounds_toArray, List.set_cons_zero, List.set_cons_succ]
  refine lt_val (v := (.bool true)) 46 (some 70) rfl (by kernel_rfl) (by kernel_rfl) (by kernel_rfl) (fun _ _ _ h => h) rfl rfl (fun w => ?_) ?_
  · (go_simp; try with_reducible rfl)
  try simp only [Act.put, List.setIfInBounds_toArray, List.set_cons_zero, List.set_cons_succ]
  refine lt_val (v := ?_) 47 (some 71) rfl (by kernel_rfl) (by kernel_rfl) (by kernel_rfl) (fun _ _ _ h => h) rfl rfl (fun w => ?_) ?_
  rotate_left
  · (go_simp; try with_reducible rfl)
  try simp only [Act.put, List.setIfInBounds_toArray, List.set_cons_zero, List.set_cons_succ]
  refine lt_one 48 rfl (by kernel_rfl) rfl (fun K hK => ?_)
  go_simp
  refine (Left_z zb _ BZ).mono ?_
  rintro e w' ⟨rfl, k⟩
  go_wp2_with fail
  refine hK.out _ _ (fun _ h => h.chg k (by simp)) ?_
  replace hHeld := hHeld.chg k (by simp)
  replace C := C.trans1 k
  replace BZ := BZ.chg k (by simp)
  replace BD := BD.chg k (by simp)
  replace BE := BE.chg k (by simp)
  clear k
  clear hK K
  try simp only [Act.put, List.setIfInBounds_toArray, List.set_cons_zero, List.set_cons_succ]
  refine lt_val (v := (.bool true)) 49 (some 73) rfl (by kernel_rfl) (by kernel_rfl) (by kernel_rfl) (fun _ _ _ h => h) rfl rfl (fun w => ?_) ?_
  · (go_simp; try with_reducible rfl)
  try simp only [Act.put, List.setIfInBounds_toArray, List.set_cons_zero, List.set_cons_succ]
  refine lt_val (v := (.bool true)) 50 (some 74) rfl (by kernel_rfl) (by kernel_rfl) (by kernel_rfl) (fun _ _ _ h => h) rfl rfl (fun w => ?_) ?_
  · (go_simp; try with_reducible rfl)
  try simp only [Act.put, List.setIfInBounds_toArray, List.set_cons_zero, List.set_cons_succ]
  refine lt_val (v := ?_) 51 (some 0) rfl (by kernel_rfl) (by kernel_rfl) (by kernel_rfl) (fun _ _ _ h => h) rfl rfl (fun w => ?_) ?_
  rotate_left
  · (go_simp; try with_reducible rfl)
  try simp only [Act.put, List.setIfInBounds_toArray, List.set_cons_zero, List.set_cons_succ]
  refine lt_done (by kernel_rfl) ?_ _
  go_wp2_with fail
  go_ret
  exact ⟨rfl, C⟩
end Go.Proofs.YtjppbngimacgnaaGreatDoor
