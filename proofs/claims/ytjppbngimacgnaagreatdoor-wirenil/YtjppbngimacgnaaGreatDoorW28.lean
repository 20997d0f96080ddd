/- rimelaw10.works: the walk. -/
import Derived.Test.YtjppbngimacgnaaGreatDoorW27
set_option linter.unusedVariables false
set_option linter.unusedSimpArgs false
set_option linter.unnecessarySimpa false
namespace Go.Proofs.YtjppbngimacgnaaGreatDoor
open Go.RowKit

theorem builtM5 : Tryz.prog.built 56 [(0, .int .i64 5), (2, .int .i64 2), (10, .int .i64 5)] = some (msC m5) := by kernel_rfl
/-- A message in a block is loaded whole, though guarded. -/
theorem load_gb {ops : Array Oper} {rest : List Oper} {op : Oper} {a : Act} {w : World} {Q : Exit → Act → World → Prop} {b : Nat} {T : TypeId} (hB : Blk w b (msC m5) T) (x : Operand) (hw : Region.wanted op (yielded ops a.tmps) = true) (ho : op.op = .load 56 x) (hx : a.eval x = .pointer (some ⟨b, 0, none⟩))
    (h : wpList Tryz.prog ops Q rest (a.put op.dst (.agg (msC m5))) w) : wpList Tryz.prog ops Q (op :: rest) a w :=
  load_gm hw 56 x ho b 0 hx (msL m5) (fun j v hv => by rw [Nat.zero_add]; exact ms_at hB j v hv) Tryz.underlying56 rfl (by rw [msL_len]; exact msInfoW) h
theorem it_49 : ItA 49 (strOfNums [52] ++ strOfNums [57]) := ⟨by decide, fun W => by
  have q := Itoa_small 49 (by decide) W
  rw [show (⟨(Lib.decDigits 49).toArray⟩ : ByteArray) = strOfNums [52] ++ strOfNums [57] from by kernel_rfl] at q
  exact q⟩
theorem it_d (y : Nat) (hy : y < 10) (h : (⟨(Lib.decDigits y).toArray⟩ : ByteArray) = strOfNums [48 + (y : Int)]) (h1 : (strOfNums [48 + (y : Int)]).size ≤ 1000) : ItA y (strOfNums [48 + (y : Int)]) := ⟨h1, fun W => by
  have q := Itoa_small y (by omega) W
  rw [h] at q
  exact q⟩
theorem it_3 : ItA 3 (strOfNums [48 + ((3 : Nat) : Int)]) := it_d 3 (by decide) (by kernel_rfl) (by decide)
set_option maxHeartbeats 8000000 in
set_option maxRecDepth 100000 in
theorem works_s (w : World) (hG : Gl w) : Calls Tryz.prog 5 #[] w fun e w' => e = .returned (.bool true) ∧ Chg w w' [] := by
  have HG : Hid (Gl w) := hG
  clear hG
  go_enter Tryz.func5, Tryz.ntmps5
  go_wp2_with (first
    | (refine wpList_load_row rfl 56 _ rfl mb rfl 56 _ (0, 0) _ BM2 Tryz.underlying56 rfl (by rw [msC_size]; exact msInfoW) ?_)
    | (refine store_w BM rfl 56 _ _ (msC m5) rfl rfl rfl (by rw [msC_size]; exact msInfoW) (by rw [msC_size, msC_size]) (ms_oneC _ rfl rfl) ?_; intro w2 BM2 k2)
    | (with_reducible refine alloc_w rfl 56 rfl (.agg (msC (ms0 0))) zeroMsg (msC (ms0 0)) rfl ?_; intro mb w1 hmb BM k1)
    | (with_reducible refine wpList_buildW ?_ 56 _ ?_ (msC m5) ?_ ?_
       · rfl
       · rfl
       · exact builtM5
       skip))
  have K2 : Chg w w2 [] := k1.new k2 hmb
  clear BM k1 k2
  refine (Encode_5 w2 (HG.out.chg K2 (by simp) (by simp))).mono ?_
  rintro e w3 ⟨v3, rfl, O3, k3⟩
  have S3 := O3.sl
  obtain ⟨g, o, c, rfl, hc, hc2, B3⟩ : ∃ g o c, v3 = .slice (some ⟨g, o, none⟩) 50 c ∧ 50 ≤ c ∧ c ≤ 9223372036854775807 ∧ Bs w3 g o 50 G5 := by
    rcases S3 with ⟨h, _⟩ | h
    · omega
    · exact h
  have HC : Hid (50 ≤ c ∧ c ≤ 9223372036854775807) := ⟨hc, hc2⟩
  have BM3 := BM2.chg k3 (by simp)
  have K3 := K2.trans1 k3
  have hcI : (49 : Int) ≤ (c : Int) := by omega
  clear O3 S3 hc hc2 BM2 K2 k3 hmb
  go_wp2_with fail
  refine (Decode_5 g o c HC.out.1 HC.out.2 w3 (HG.out.chg K3 (by simp) (by simp)) B3).mono ?_
  rintro e w4 ⟨rfl, k4⟩
  have BM4 := BM3.chg k4 (by simp)
  have B4 := B3.chg k4 (by simp)
  have K4 := K3.trans1 k4
  clear BM3 B3 K3 k4
  go_wp2_with (first
    | (refine store_w BX rfl 56 _ _ (msC m5) rfl rfl rfl (by rw [msC_size]; exact msInfoW) (by rw [msC_size, msC_size]) (ms_oneC _ rfl rfl) ?_; intro w6 BX6 k6)
    | (with_reducible refine alloc_w rfl 56 rfl (.agg (msC (ms0 0))) zeroMsg (msC (ms0 0)) rfl ?_; intro xb w5 hxb BX k5))
  have HX : Hid (w.heap.size ≤ xb) := by have := K4.size; show w.heap.size ≤ xb; omega
  have K6 : Chg w w6 [] := (K4.trans1 k5).new k6 HX.out
  have C46 : Chg w4 w6 [] := k5.new k6 hxb
  have BM6 := BM4.chg C46 (by simp)
  have B6 := B4.chg C46 (by simp)
  clear BM4 B4 K4 C46 k5 k6 BX hxb
  refine (Decode_49 g o c HC.out.1 HC.out.2 w6 B6).mono ?_
  rintro e w7 ⟨fv, rfl, ⟨gf, rfl, hgf, BF⟩, k7⟩
  have BM7 := BM6.chg k7 (by simp)
  have BX7 := BX6.chg k7 (by simp)
  have K7 := K6.trans1 k7
  clear BM6 B6 K6 k7 BX6
  go_wp2_with (first
    | (refine store_w BY rfl 56 _ _ (msC (ms0 0)) rfl rfl rfl (by rw [msC_size]; exact msInfoW) rfl (ms_oneC _ rfl rfl) ?_; intro w9 BY9 k9)
    | (with_reducible refine alloc_w rfl 56 rfl (.agg (msC (ms0 0))) zeroMsg (msC (ms0 0)) rfl ?_; intro yb w8 hyb BY k8)
    | (refine load_gb (BX7.chg (k8.new k9 hyb) (by simp)) (.tmp 4) (by rfl) rfl rfl ?_)
    | (refine load_gb (BM7.chg (k8.new k9 hyb) (by simp)) (.tmp 1) (by rfl) rfl rfl ?_))
  have C79 : Chg w7 w9 [] := k8.new k9 hyb
  have BF9 := BF.chg C79 (by simp)
  have K9 := K7.trans1 C79
  refine (SameMsg_5 w9).mono ?_
  rintro e w10 ⟨rfl, k10⟩
  have BF10 := BF9.chg k10 (by simp)
  have K10 := K9.trans1 k10
  clear BM7 BX7 BF K7 BY BY9 k8 k9 C79 BF9 K9 k10 hyb
  go_wp2_with fail
  refine (fault_s gf sFrame (strOfNums [52] ++ strOfNums [57]) (strOfNums [48 + ((3 : Nat) : Int)]) 49 3 (by decide) it_49 it_3 (fun W => dec_49 W) (fun W => none_frame 49 3 W) w10 BF10).mono ?_
  rintro e w11 ⟨rfl, k11⟩
  go_wp2_with fail
  go_ret
  exact ⟨rfl, K10.trans1 k11⟩
end Go.Proofs.YtjppbngimacgnaaGreatDoor
