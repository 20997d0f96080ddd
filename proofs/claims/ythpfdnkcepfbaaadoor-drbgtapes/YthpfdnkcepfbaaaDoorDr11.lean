/- alive. -/
import Derived.Test.YthpfdnkcepfbaaaDoorDr9
import Derived.Test.YthpfdnkcepfbaaaDoorDr10
import Derived.Test.YthpfdnkcepfbaaaDoorDrK
set_option linter.unusedVariables false
set_option linter.unusedSimpArgs false
set_option linter.unnecessarySimpa false
namespace Go.Proofs.YthpfdnkcepfbaaaDoor
open Go.RowKit

set_option maxHeartbeats 4000000 in
set_option maxRecDepth 100000 in
theorem num_s (e : Int) (w : World) : Calls Tryd.prog 17 #[.int .i64 e] w fun x w' => x = .returned (.int .i64 e) ∧ w' = w := by
  go_enter Tryd.func17, Tryd.ntmps17
  go_wp2_with fail
  go_ret
  exact ⟨rfl, rfl⟩
/-- Are 32 bytes the same? -/
def eq32 (f g : Nat → Nat) : Bool := (List.range 32).all fun i => ((f i : Nat) : Int) == ((g i : Nat) : Int)
theorem eq32_self (f : Nat → Nat) : eq32 f f = true := by simp [eq32]
@[go_sem] theorem eq_rand (f g : Nat → Nat) (w : World) : (Op.equalIn 10000 69 (.agg (yC 32 f)) (.agg (yC 32 g))).run Tryd.prog w = .ok (eq32 f g) w := by
  obtain ⟨i, hi⟩ := u8InfoE
  rw [show (10000 : Nat) = 9998 + 1 + 1 from rfl, run_equalIn_array w 9999 _ _ Tryd.underlying69 hi, u8CellsE]
  exact eqItems_ints w 9998 Tryd.underlying5 _ _ (fun i => ((f i : Nat) : Int)) (fun i => ((g i : Nat) : Int)) (List.range 32) (fun j hj => ⟨yC_get 32 f j (by simpa using hj), yC_get 32 g j (by simpa using hj)⟩)
def r7 : Nat → Nat := fun j => if j = 0 then 7 else 0
theorem builtR7 : Tryd.prog.built 69 [(0, .int .u8 7)] = some (yC 32 r7) := by kernel_rfl
theorem fillR (f : Nat → Nat) : Instr.fill (fun i => some (i * 32, 32)) ((Array.range (1 * 32)).map ((Value.agg (yC 32 (fun _ => 0))).cells[· % (Value.agg (yC 32 (fun _ => 0))).cells.size]!)) [(0, .agg (yC 32 f))] = some (yC 32 f) := by kernel_rfl
theorem A0_eq : (#[.int .u8 107, .int .u8 101, .int .u8 121] : Array Value) = yC 3 kKey := by kernel_rfl
theorem A1_eq : (#[.int .u8 84, .int .u8 104, .int .u8 101, .int .u8 32, .int .u8 113, .int .u8 117, .int .u8 105, .int .u8 99, .int .u8 107, .int .u8 32, .int .u8 98, .int .u8 114, .int .u8 111, .int .u8 119, .int .u8 110, .int .u8 32, .int .u8 102, .int .u8 111, .int .u8 120, .int .u8 32, .int .u8 106, .int .u8 117, .int .u8 109, .int .u8 112, .int .u8 115, .int .u8 32, .int .u8 111, .int .u8 118, .int .u8 101, .int .u8 114, .int .u8 32] : Array Value) = yC 31 kT0 := by kernel_rfl
theorem A2_eq : (#[.int .u8 116, .int .u8 104, .int .u8 101, .int .u8 32, .int .u8 108, .int .u8 97, .int .u8 122, .int .u8 121, .int .u8 32, .int .u8 100, .int .u8 111, .int .u8 103] : Array Value) = yC 12 kT1 := by kernel_rfl
theorem kKey_lt : ∀ i, i < 3 → kKey i < 256 := by decide
theorem kT0_lt : ∀ i, i < 31 → kT0 i < 256 := by decide
theorem kT1_lt : ∀ i, i < 12 → kT1 i < 256 := by decide
theorem bs_const (w : World) (cs : Array Value) (n : Nat) (f : Nat → Nat) (m : Nat × Nat) (he : cs = yC n f) (hf : ∀ i, i < n → f i < 256) : Bs (w.alloc (.cells cs 5 m)) w.heap.size 0 n f := by
  subst he
  have hb := heap_alloc_new w (.cells (yC n f) 5 m)
  refine ⟨by simp, hf, fun i hi => ?_⟩
  unfold World.cell?
  simp only [Nat.zero_add, hb]
  exact yC_get n f i hi
theorem R7_eq : (#[.int .u8 7, .int .u8 0, .int .u8 0, .int .u8 0, .int .u8 0, .int .u8 0, .int .u8 0, .int .u8 0, .int .u8 0, .int .u8 0, .int .u8 0, .int .u8 0, .int .u8 0, .int .u8 0, .int .u8 0, .int .u8 0, .int .u8 0, .int .u8 0, .int .u8 0, .int .u8 0, .int .u8 0, .int .u8 0, .int .u8 0, .int .u8 0, .int .u8 0, .int .u8 0, .int .u8 0, .int .u8 0, .int .u8 0, .int .u8 0, .int .u8 0, .int .u8 0] : Array Value) = yC 32 r7 := by kernel_rfl
theorem eq_r7 (w : World) : (Op.equalIn 10000 69 (.agg (yC 32 r7)) (.agg #[.int .u8 7, .int .u8 0, .int .u8 0, .int .u8 0, .int .u8 0, .int .u8 0, .int .u8 0, .int .u8 0, .int .u8 0, .int .u8 0, .int .u8 0, .int .u8 0, .int .u8 0, .int .u8 0, .int .u8 0, .int .u8 0, .int .u8 0, .int .u8 0, .int .u8 0, .int .u8 0, .int .u8 0, .int .u8 0, .int .u8 0, .int .u8 0, .int .u8 0, .int .u8 0, .int .u8 0, .int .u8 0, .int .u8 0, .int .u8 0, .int .u8 0, .int .u8 0])).run Tryd.prog w = .ok true w := by
  rw [R7_eq, eq_rand, eq32_self]
theorem seo_nil (g : Nat) (w : World) (f : Nat → Nat) : SeO g w (.slice none 0 0) 0 f := Or.inl ⟨Or.inl ⟨rfl, rfl⟩, fun _ _ _ _ h => by simp at h⟩
theorem se_nil (w : World) (f : Nat → Nat) : Se w (.slice none 0 0) 0 f := Or.inl (Or.inl ⟨rfl, rfl⟩)
set_option maxHeartbeats 16000000 in
set_option maxRecDepth 100000 in
theorem aliveD_s (w : World) (hG : Gl w) : Calls Tryd.prog 19 #[] w fun e w' => e = .returned (.bool true) ∧ Chg w w' [] := by
  have hcv := fun (W : World) (cs : Array Value) => Lib.run_convert_bytes_const (P := Tryd.prog) W 22 5 cs cs.size cs.size Tryd.underlying22 Tryd.underlying5
  have hc3 := hcv w #[.int .u8 107, .int .u8 101, .int .u8 121]
  have hc31 := hcv (w.alloc (.cells #[.int .u8 107, .int .u8 101, .int .u8 121] 5 (3, 4))) #[.int .u8 84, .int .u8 104, .int .u8 101, .int .u8 32, .int .u8 113, .int .u8 117, .int .u8 105, .int .u8 99, .int .u8 107, .int .u8 32, .int .u8 98, .int .u8 114, .int .u8 111, .int .u8 119, .int .u8 110, .int .u8 32, .int .u8 102, .int .u8 111, .int .u8 120, .int .u8 32, .int .u8 106, .int .u8 117, .int .u8 109, .int .u8 112, .int .u8 115, .int .u8 32, .int .u8 111, .int .u8 118, .int .u8 101, .int .u8 114, .int .u8 32]
  have hc12 := hcv ((w.alloc (.cells #[.int .u8 107, .int .u8 101, .int .u8 121] 5 (3, 4))).alloc (.cells #[.int .u8 84, .int .u8 104, .int .u8 101, .int .u8 32, .int .u8 113, .int .u8 117, .int .u8 105, .int .u8 99, .int .u8 107, .int .u8 32, .int .u8 98, .int .u8 114, .int .u8 111, .int .u8 119, .int .u8 110, .int .u8 32, .int .u8 102, .int .u8 111, .int .u8 120, .int .u8 32, .int .u8 106, .int .u8 117, .int .u8 109, .int .u8 112, .int .u8 115, .int .u8 32, .int .u8 111, .int .u8 118, .int .u8 101, .int .u8 114, .int .u8 32] 5 (31, 32))) #[.int .u8 116, .int .u8 104, .int .u8 101, .int .u8 32, .int .u8 108, .int .u8 97, .int .u8 122, .int .u8 121, .int .u8 32, .int .u8 100, .int .u8 111, .int .u8 103]
  have hs1 : (w.alloc (.cells #[.int .u8 107, .int .u8 101, .int .u8 121] 5 (3, 4))).heap.size = w.heap.size + 1 := by simp
  have hs2 : ((w.alloc (.cells #[.int .u8 107, .int .u8 101, .int .u8 121] 5 (3, 4))).alloc (.cells #[.int .u8 84, .int .u8 104, .int .u8 101, .int .u8 32, .int .u8 113, .int .u8 117, .int .u8 105, .int .u8 99, .int .u8 107, .int .u8 32, .int .u8 98, .int .u8 114, .int .u8 111, .int .u8 119, .int .u8 110, .int .u8 32, .int .u8 102, .int .u8 111, .int .u8 120, .int .u8 32, .int .u8 106, .int .u8 117, .int .u8 109, .int .u8 112, .int .u8 115, .int .u8 32, .int .u8 111, .int .u8 118, .int .u8 101, .int .u8 114, .int .u8 32] 5 (31, 32))).heap.size = w.heap.size + 1 + 1 := by simp
  have hs3 : (((w.alloc (.cells #[.int .u8 107, .int .u8 101, .int .u8 121] 5 (3, 4))).alloc (.cells #[.int .u8 84, .int .u8 104, .int .u8 101, .int .u8 32, .int .u8 113, .int .u8 117, .int .u8 105, .int .u8 99, .int .u8 107, .int .u8 32, .int .u8 98, .int .u8 114, .int .u8 111, .int .u8 119, .int .u8 110, .int .u8 32, .int .u8 102, .int .u8 111, .int .u8 120, .int .u8 32, .int .u8 106, .int .u8 117, .int .u8 109, .int .u8 112, .int .u8 115, .int .u8 32, .int .u8 111, .int .u8 118, .int .u8 101, .int .u8 114, .int .u8 32] 5 (31, 32))).alloc (.cells #[.int .u8 116, .int .u8 104, .int .u8 101, .int .u8 32, .int .u8 108, .int .u8 97, .int .u8 122, .int .u8 121, .int .u8 32, .int .u8 100, .int .u8 111, .int .u8 103] 5 (12, 13))).heap.size = w.heap.size + 1 + 1 + 1 := by simp
  simp only [List.size_toArray, List.length_cons, List.length_nil, Nat.reduceAdd] at hc3 hc31 hc12
  rw [hs1] at hc31
  rw [hs2] at hc12
  have b0 := (bs_const w #[.int .u8 107, .int .u8 101, .int .u8 121] 3 kKey (3, 4) A0_eq kKey_lt)
  have b1 := (bs_const (w.alloc (.cells #[.int .u8 107, .int .u8 101, .int .u8 121] 5 (3, 4))) #[.int .u8 84, .int .u8 104, .int .u8 101, .int .u8 32, .int .u8 113, .int .u8 117, .int .u8 105, .int .u8 99, .int .u8 107, .int .u8 32, .int .u8 98, .int .u8 114, .int .u8 111, .int .u8 119, .int .u8 110, .int .u8 32, .int .u8 102, .int .u8 111, .int .u8 120, .int .u8 32, .int .u8 106, .int .u8 117, .int .u8 109, .int .u8 112, .int .u8 115, .int .u8 32, .int .u8 111, .int .u8 118, .int .u8 101, .int .u8 114, .int .u8 32] 31 kT0 (31, 32) A1_eq kT0_lt)
  have b2 := (bs_const ((w.alloc (.cells #[.int .u8 107, .int .u8 101, .int .u8 121] 5 (3, 4))).alloc (.cells #[.int .u8 84, .int .u8 104, .int .u8 101, .int .u8 32, .int .u8 113, .int .u8 117, .int .u8 105, .int .u8 99, .int .u8 107, .int .u8 32, .int .u8 98, .int .u8 114, .int .u8 111, .int .u8 119, .int .u8 110, .int .u8 32, .int .u8 102, .int .u8 111, .int .u8 120, .int .u8 32, .int .u8 106, .int .u8 117, .int .u8 109, .int .u8 112, .int .u8 115, .int .u8 32, .int .u8 111, .int .u8 118, .int .u8 101, .int .u8 114, .int .u8 32] 5 (31, 32))) #[.int .u8 116, .int .u8 104, .int .u8 101, .int .u8 32, .int .u8 108, .int .u8 97, .int .u8 122, .int .u8 121, .int .u8 32, .int .u8 100, .int .u8 111, .int .u8 103] 12 kT1 (12, 13) A2_eq kT1_lt)
  rw [hs1] at b1
  rw [hs2] at b2
  have a1 := (Chg.refl (w.alloc (.cells #[.int .u8 107, .int .u8 101, .int .u8 121] 5 (3, 4))) []).alloc (.cells #[.int .u8 84, .int .u8 104, .int .u8 101, .int .u8 32, .int .u8 113, .int .u8 117, .int .u8 105, .int .u8 99, .int .u8 107, .int .u8 32, .int .u8 98, .int .u8 114, .int .u8 111, .int .u8 119, .int .u8 110, .int .u8 32, .int .u8 102, .int .u8 111, .int .u8 120, .int .u8 32, .int .u8 106, .int .u8 117, .int .u8 109, .int .u8 112, .int .u8 115, .int .u8 32, .int .u8 111, .int .u8 118, .int .u8 101, .int .u8 114, .int .u8 32] 5 (31, 32))
  have a2 := (Chg.refl ((w.alloc (.cells #[.int .u8 107, .int .u8 101, .int .u8 121] 5 (3, 4))).alloc (.cells #[.int .u8 84, .int .u8 104, .int .u8 101, .int .u8 32, .int .u8 113, .int .u8 117, .int .u8 105, .int .u8 99, .int .u8 107, .int .u8 32, .int .u8 98, .int .u8 114, .int .u8 111, .int .u8 119, .int .u8 110, .int .u8 32, .int .u8 102, .int .u8 111, .int .u8 120, .int .u8 32, .int .u8 106, .int .u8 117, .int .u8 109, .int .u8 112, .int .u8 115, .int .u8 32, .int .u8 111, .int .u8 118, .int .u8 101, .int .u8 114, .int .u8 32] 5 (31, 32))) []).alloc (.cells #[.int .u8 116, .int .u8 104, .int .u8 101, .int .u8 32, .int .u8 108, .int .u8 97, .int .u8 122, .int .u8 121, .int .u8 32, .int .u8 100, .int .u8 111, .int .u8 103] 5 (12, 13))
  have a3 := (Chg.refl (((w.alloc (.cells #[.int .u8 107, .int .u8 101, .int .u8 121] 5 (3, 4))).alloc (.cells #[.int .u8 84, .int .u8 104, .int .u8 101, .int .u8 32, .int .u8 113, .int .u8 117, .int .u8 105, .int .u8 99, .int .u8 107, .int .u8 32, .int .u8 98, .int .u8 114, .int .u8 111, .int .u8 119, .int .u8 110, .int .u8 32, .int .u8 102, .int .u8 111, .int .u8 120, .int .u8 32, .int .u8 106, .int .u8 117, .int .u8 109, .int .u8 112, .int .u8 115, .int .u8 32, .int .u8 111, .int .u8 118, .int .u8 101, .int .u8 114, .int .u8 32] 5 (31, 32))).alloc (.cells #[.int .u8 116, .int .u8 104, .int .u8 101, .int .u8 32, .int .u8 108, .int .u8 97, .int .u8 122, .int .u8 121, .int .u8 32, .int .u8 100, .int .u8 111, .int .u8 103] 5 (12, 13))) []).alloc (.cells #[.slice (some ⟨w.heap.size + 1, 0, none⟩) 31 31, .slice (some ⟨w.heap.size + 1 + 1, 0, none⟩) 12 12] 22)
  have BL := Blk.new (((w.alloc (.cells #[.int .u8 107, .int .u8 101, .int .u8 121] 5 (3, 4))).alloc (.cells #[.int .u8 84, .int .u8 104, .int .u8 101, .int .u8 32, .int .u8 113, .int .u8 117, .int .u8 105, .int .u8 99, .int .u8 107, .int .u8 32, .int .u8 98, .int .u8 114, .int .u8 111, .int .u8 119, .int .u8 110, .int .u8 32, .int .u8 102, .int .u8 111, .int .u8 120, .int .u8 32, .int .u8 106, .int .u8 117, .int .u8 109, .int .u8 112, .int .u8 115, .int .u8 32, .int .u8 111, .int .u8 118, .int .u8 101, .int .u8 114, .int .u8 32] 5 (31, 32))).alloc (.cells #[.int .u8 116, .int .u8 104, .int .u8 101, .int .u8 32, .int .u8 108, .int .u8 97, .int .u8 122, .int .u8 121, .int .u8 32, .int .u8 100, .int .u8 111, .int .u8 103] 5 (12, 13))) #[.slice (some ⟨w.heap.size + 1, 0, none⟩) 31 31, .slice (some ⟨w.heap.size + 1 + 1, 0, none⟩) 12 12] 22
  rw [hs3] at BL
  have K4 := (((Chg.refl w []).alloc (.cells #[.int .u8 107, .int .u8 101, .int .u8 121] 5 (3, 4))).trans1 a1).trans1 (a2.trans1 a3)
  have q0 := ((b0.chg (a1.trans1 (a2.trans1 a3)) (by simp)).sl 3 (by omega) (by omega))
  have q1 := ((b1.chg (a2.trans1 a3) (by simp)).sl 31 (by omega) (by omega))
  have q2 := ((b2.chg a3 (by simp)).sl 12 (by omega) (by omega))
  have HQ : Hid (_ ∧ True) := ⟨MAC_s _ 3 kKey _ 2 _ _ _ _ (hG.chg K4 (by simp) (by simp)) (Or.inl q0) (by omega) (Ps.mk2 BL (Or.inl q1) (Or.inl q2)) (by rw [cN_2]; omega), trivial⟩
  rw [cN_2, cF_2] at HQ
  have HK4 : Hid (_ ∧ True) := ⟨K4, trivial⟩
  obtain ⟨MM, hMM⟩ : ∃ z, mac 3 kKey (31 + 12) (cat kT0 31 kT1) = z := ⟨_, rfl⟩
  have HM : Hid (MM 0 = 180 ∧ MM 1 = 42 ∧ MM 7 = 226) := by
    show MM 0 = 180 ∧ MM 1 = 42 ∧ MM 7 = 226
    rw [← hMM]; exact ⟨fox0, fox1, fox7⟩
  rw [hMM] at HQ
  have HG : Hid (Gl w) := hG
  have HGL : Hid (1 < w.heap.size) := hG.lt
  clear hG hcv hs1 hs2 hs3 b0 b1 b2 a1 a2 a3 BL K4 q0 q1 q2 hMM
  have hmk : ∀ W : World, (Instr.makeSlice 22 (.int .i64 32) (.int .i64 32)).run Tryd.prog W = .ok (.slice (some ⟨W.heap.size, 0, none⟩) 32 32) (W.alloc (.cells (yC 32 fun _ => 0) 5)) := fun W => make_y' 32 (by omega) W
  go_enter Tryd.func19, Tryd.ntmps19
  go_wp2_with fail
  refine HQ.out.1.mono ?_
  rintro e v1 ⟨rfl, k1⟩
  have K1 := HK4.out.1.trans1 k1
  clear k1 HK4 HQ hc3 hc31 hc12
  go_wp2_with (first
    | (have _h := BD; refine store_w BD rfl 47 _ _ (yC 64 MM) rfl rfl rfl (by rw [yC_size]; exact digInfo) (by rw [yC_size, yC_size]) (yC_one 64 _) ?_; intro v3 BD3 k3)
    | (with_reducible refine alloc_w rfl 47 rfl (.agg (yC 64 (fun _ => 0))) zeroDig (yC 64 (fun _ => 0)) rfl ?_; intro db v2 hdb BD k2))
  have K3 := (K1.trans1 k2).new k3 (Nat.le_trans K1.size hdb)
  have BZ := Blk.new v3 (yC 32 (fun _ => 0)) 5
  have kz := (Chg.refl v3 []).alloc (.cells (yC 32 (fun _ => 0)) 5)
  have K4 := K3.trans1 kz
  have BD4 := BD3.chg kz (by simp)
  clear k2 k3 hdb BD BD3 K1 K3 hmk
  refine (New_ok _ _ _ 32 0 0 (fun _ => 0) (fun _ => 0) (fun _ => 0) _ (HG.out.chg K4 (by simp) (by simp)) (Or.inl (BZ.slT (fun _ _ => by omega) (by omega))) (se_nil _ _) (se_nil _ _) (by omega) (by omega)).mono ?_
  rintro e v5 ⟨g, rfl, hg, k5, BG⟩
  obtain ⟨KN, hKN⟩ : ∃ z, nK 32 0 0 (fun _ => 0) (fun _ => 0) (fun _ => 0) = z := ⟨_, rfl⟩
  obtain ⟨VN, hVN⟩ : ∃ z, nV 32 0 0 (fun _ => 0) (fun _ => 0) (fun _ => 0) = z := ⟨_, rfl⟩
  rw [hKN, hVN] at BG
  have HKN : Hid (∀ i, i < 64 → KN i < 256) := by show ∀ i, i < 64 → KN i < 256; intro i _; rw [← hKN]; exact s2K_lt _ _ _ _ _
  have HVN : Hid (∀ i, i < 64 → VN i < 256) := by show ∀ i, i < 64 → VN i < 256; intro i _; rw [← hVN]; exact s2V_lt _ _ _ _ _
  have BD5 := BD4.chg k5 (by simp)
  have K5 := K4.trans1 k5
  have HGN : Hid (w.heap.size ≤ g ∧ db < g) := ⟨Nat.le_trans K4.size hg, Nat.lt_of_lt_of_le BD4.lt hg⟩
  clear BZ kz K4 BD4 k5 hKN hVN hg
  go_wp2_with fail
  refine (num_s 0 v5).mono ?_
  rintro e v5' ⟨rfl, rfl⟩
  go_wp2_with fail
  refine (Draw_ok g KN VN 0 5 _ 0 (fun _ => 0) v5' (HG.out.chg K5 (by simp) (by simp)) (by have := HGN.out; have := HGL.out; omega) HKN.out HVN.out BG (seo_nil _ _ _) (by omega) (by omega) (by omega)).mono ?_
  rintro e v6 ⟨ob, rfl, hob, BO, k6, BG6⟩
  have BD6 := BD5.chg k6 (by have := HGN.out; simp; omega)
  have K6 := K5.new k6 HGN.out.1
  clear BO BG6 k6 BG K5 BD5 hob HKN HVN
  obtain ⟨ir, hir, hirz, hirs, _⟩ := rnRow
  have HB7 : Hid (Tryd.prog.built 69 [(0, .int .u8 7)] = some (yC 32 r7)) := builtR7
  go_wp2_with (first
    | (refine wpList_build_c rfl 69 _ rfl (yC 32 r7) (by go_simp; exact HB7.out) ?_)
    | (with_reducible refine bslice_w ?_ 78 69 (.tmp 34) ?_ (.agg (yC 32 r7)) ?_ (yC 32 r7) ir (.agg (yC 32 (fun _ => 0))) Tryd.underlying78 hir hirz 32 hirs ?_ ?_ (fillR r7) ?_
       · rfl
       · rfl
       · rfl
       · omega
       · omega
       intro lb v7 hlb BL k7))
  have RL : Rl v7 32 (.slice (some ⟨lb, 0, none⟩) 1 1) 1 (rn (fun _ => r7)) := ⟨rn_ok _ 1, Or.inr ⟨lb, 0, 1, rfl, Nat.le_refl _, by omega, BL.lt, fun i hi j x hx => by
    obtain rfl : i = 0 := by omega
    obtain ⟨hj, rfl⟩ := yL_some _ _ _ _ hx
    show v7.cell? ⟨lb, 0 + 0 * 32 + j, none⟩ = _
    rw [show 0 + 0 * 32 + j = j by omega, BL.cell, yC_get _ _ _ hj]⟩⟩
  have BD7 := BD6.chg k7 (by simp)
  have K7 := K6.trans1 k7
  refine (NewTape_s lb 0 1 1 (fun _ => r7) v7 (by omega) (by omega) RL).mono ?_
  rintro e v8 ⟨tb, gg, cap, rfl, htb, hgg, BT, RT, k8⟩
  have BD8 := BD7.chg k8 (by simp)
  have K8 := K7.trans1 k8
  have HTB : Hid (w.heap.size ≤ tb ∧ db < tb) := ⟨Nat.le_trans K7.size htb, Nat.lt_of_lt_of_le BD7.lt htb⟩
  clear BD6 BD7 K6 K7 k7 k8 RL BL hlb htb hgg
  go_wp2_with fail
  refine (TRandom_ok tb gg 0 1 cap (fun _ => r7) v8 (by omega) BT RT).mono ?_
  rintro e v9 ⟨o', rfl, BT9, _, k9⟩
  have BD9 := BD8.chg k9 (by have := HTB.out; simp; omega)
  have K9 := K8.new k9 HTB.out.1
  clear BD8 K8 k9 BT RT
  go_upto_region 8 with (first
    | (have _h := BX; refine store_w BX rfl 69 _ _ (yC 32 r7) rfl rfl rfl (by rw [yC_size]; exact randInfo) (by rw [yC_size, yC_size]) (yC_one 32 _) ?_; intro v11 BX11 k11)
    | (with_reducible refine alloc_w rfl 69 rfl (.agg (yC 32 (fun _ => 0))) zeroRand (yC 32 (fun _ => 0)) rfl ?_; intro xb v10 hxb BX k10))
  have BD11 := (BD9.chg k10 (by simp)).chg k11 (by have := BD9.lt; simp; omega)
  have BT11 := (BT9.chg k10 (by simp)).chg k11 (by have := BT9.lt; simp; omega)
  have K11 := (K9.trans1 k10).new k11 (Nat.le_trans K9.size hxb)
  clear BD9 BT9 K9 k10 k11 BX hxb
  have c0 := (BD11.cell 0).trans ((yC_get 64 _ 0 (by omega)).trans (by rw [HM.out.1]))
  have c1 := (BD11.cell 1).trans ((yC_get 64 _ 1 (by omega)).trans (by rw [HM.out.2.1]))
  have c7 := (BD11.cell 7).trans ((yC_get 64 _ 7 (by omega)).trans (by rw [HM.out.2.2]))
  have he := eq_r7
  try simp only [Act.put, List.setIfInBounds_toArray, List.set_cons_zero, List.set_cons_succ]
  clear BD11
  go_wp2_with fail
  refine (num_s 0 v11).mono ?_
  rintro e _ ⟨rfl, rfl⟩
  go_wp2_with (first
    | (refine gl_load (by rfl) 69 _ rfl xb rfl 69 (yC 32 r7) _ BX11 Tryd.underlying69 rfl (by rw [yC_size]; exact randInfo) ?_)
    | (refine gl_build (by rfl) 69 _ rfl (yC 32 r7) (by go_simp; exact HB7.out) ?_))
  refine (num_s 0 _).mono ?_
  rintro e _ ⟨rfl, rfl⟩
  go_wp2_with fail
  refine (TLeft_s tb _ _ _ _ _ BT11).mono ?_
  rintro e _ ⟨rfl, rfl⟩
  go_wp2_with fail
  go_ret
  exact ⟨rfl, K11⟩
end Go.Proofs.YthpfdnkcepfbaaaDoor
