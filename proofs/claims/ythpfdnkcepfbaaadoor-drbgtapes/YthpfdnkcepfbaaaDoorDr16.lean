/- Generator.Random; what is asked of none. -/
import Derived.Test.YthpfdnkcepfbaaaDoorDr12
set_option linter.unusedVariables false
set_option linter.unusedSimpArgs false
set_option linter.unnecessarySimpa false
namespace Go.Proofs.YthpfdnkcepfbaaaDoor
open Go.RowKit

theorem aN32 (d : Nat) : aN 32 d ≤ 32 := by unfold aN; split <;> simp
/-- What Random answers. -/
def rO (K V : Nat → Nat) (d : Nat) : Nat → Nat := lay (fun _ => 0) 0 (aN 32 d) (dO K V 0 (fun _ => 0))
set_option maxHeartbeats 4000000 in
set_option maxRecDepth 100000 in
theorem Random_a (g : Nat) (K V : Nat → Nat) (d : Nat) (w : World) (hG : Gl w) (hg : 2 ≤ g) (hK : L64 K) (hV : L64 V) (hd : d ≤ 4096) (B : Blk w g (gC K V d) 141) :
    Calls Tryd.prog 26 #[.pointer (some ⟨g, 0, none⟩)] w fun e w' => e = .returned (.tuple #[.agg (yC 32 (rO K V d)), .int .i64 (rfs 32 d)]) ∧ Chg w w' [g] ∧ Blk w' g (gC (aK K V d 32 0 (fun _ => 0)) (aV K V d 32 0 (fun _ => 0)) (aD 32 d)) 141 := by
  have HG : Hid (Gl w) := hG
  have HK : Hid (L64 K ∧ L64 V ∧ d ≤ 4096 ∧ 2 ≤ g) := ⟨hK, hV, hd, hg⟩
  have HB : Hid (Blk w g (gC K V d) 141) := B
  have HGL : Hid (g < w.heap.size) := B.lt
  have HD : Hid (∀ W, Chg w W [] → Calls Tryd.prog 22 #[.pointer (some ⟨g, 0, none⟩), .int .i64 32, .slice none 0 0] W fun e w' => ∃ v, e = .returned (.tuple #[v, .int .i64 (rfs 32 d)]) ∧ Sl w' v (aN 32 d) (dO K V 0 (fun _ => 0)) ∧ VN v W.heap.size ∧ Chg W w' [g] ∧ Blk w' g (gC (aK K V d 32 0 (fun _ => 0)) (aV K V d 32 0 (fun _ => 0)) (aD 32 d)) 141) := fun W k => Draw_a g K V d 32 _ 0 (fun _ => 0) W (hG.chg k (by simp) (by simp)) hg hK hV hd (B.chg k (by simp)) (seo_nil _ _ _)
  obtain ⟨N, hN⟩ : ∃ z, aN 32 d = z := ⟨_, rfl⟩
  obtain ⟨F, hF⟩ : ∃ z, dO K V 0 (fun _ => 0) = z := ⟨_, rfl⟩
  obtain ⟨E, hE⟩ : ∃ z, rfs 32 d = z := ⟨_, rfl⟩
  obtain ⟨C', hC⟩ : ∃ z, gC (aK K V d 32 0 (fun _ => 0)) (aV K V d 32 0 (fun _ => 0)) (aD 32 d) = z := ⟨_, rfl⟩
  have HN : Hid (N ≤ 32 ∧ N = Nat.min N 32) := by have := aN32 d; rw [hN] at this; exact ⟨this, by show N = min N 32; omega⟩
  have HR : Hid (lay (fun _ => 0) 0 N F = rO K V d) := by show lay (fun _ => 0) 0 N F = rO K V d; rw [← hN, ← hF]; rfl
  obtain ⟨RO, hRO⟩ : ∃ z, rO K V d = z := ⟨_, rfl⟩
  rw [hRO] at HR
  rw [hN, hF, hE, hC] at HD
  rw [hE, hC, hRO]
  clear hN hF hE hC hRO hG hK hV hd hg B
  go_enter Tryd.func26, Tryd.ntmps26
  go_upto_region 2 with (first
    | (have _h := BR; with_reducible refine alloc_w rfl 69 rfl (.agg (yC 32 (fun _ => 0))) zeroRand (yC 32 (fun _ => 0)) rfl ?_; intro bb w2 hbb BB k2)
    | (with_reducible refine alloc_w rfl 69 rfl (.agg (yC 32 (fun _ => 0))) zeroRand (yC 32 (fun _ => 0)) rfl ?_; intro rb w1 hrb BR k1))
  have K2 := k1.trans1 k2
  have HS : Hid (w.heap.size ≤ rb ∧ rb < bb ∧ w.heap.size ≤ bb) := ⟨hrb, Nat.lt_of_lt_of_le BR.lt hbb, Nat.le_trans k1.size hbb⟩
  have BR2 := BR.chg k2 (by simp)
  clear BR k1 k2 hrb hbb
  go_wp2_with fail
  refine (HD.out w2 K2).mono ?_
  rintro e w3 ⟨v, rfl, S3, _, k3, B3⟩
  have HBE : Hid (Blk w3 g C' 141) := B3
  have BR3 := BR2.chg k3 (by have := HS.out; have := HGL.out; simp; omega)
  have BB3 := BB.chg k3 (by have := HS.out; have := HGL.out; simp; omega)
  have K3 : Chg w w3 [g] := (K2.wide (l := [g])).trans1 k3
  obtain ⟨p, c, rfl⟩ := Se.form (Or.inl S3)
  have HSV : Hid (Se w3 (.slice p N c) N F) := Or.inl S3
  clear S3 B3 k3 BB BR2 K2 HD
  go_wp2_with (first
    | (refine store_w BR6 rfl 69 _ _ (yC 32 RO) rfl rfl rfl (by rw [yC_size]; exact randInfo) (by rw [yC_size, yC_size]) (yC_one 32 _) ?_; intro w7 BR7 k7)
    | (with_reducible refine load_b BB6 69 (.tmp 4) Tryd.underlying69 ?_ ?_ ?_ ?_ ?_ ?_
       · rfl
       · rfl
       · rfl
       · rfl
       · (rw [yC_size]; exact randInfo))
    | (refine copy_z rfl (.tmp 12) (.tmp 13) 22 22 rfl 5 Tryd.underlying22 u8Info bb 0 32 32 p N c rfl rfl #[] 32 (fun _ => 0) #[] 69 BB3.seg 0 N F (fun _ => rfl) HN.out.2 (fun h0 => by obtain ⟨g, o, e, hb⟩ := HSV.out.src h0; exact ⟨g, o, e, hb.cell⟩) (by have := HN.out.1; omega) ?_; intro w6 BB6 k6; have BR6 := BR3.chg k6 (by have := HS.out; simp; omega); replace BB6 := BB6.unseg; rw [HR.out] at BB6; simp only [Act.put, List.setIfInBounds_toArray, List.set_cons_zero, List.set_cons_succ]))
  have C7 : Chg w w7 [g] := (K3.new k6 HS.out.2.2).new k7 HS.out.1
  have B7 := (HBE.out.chg k6 (by have := HS.out; have := HGL.out; simp; omega)).chg k7 (by have := HS.out; have := HGL.out; simp; omega)
  exact bodyPost_ret (results_cell_tmp Tryd.results26 _ _ rb 69 (yC 32 RO) _ (.int .i64 E) rfl rfl BR7 Tryd.underlying69 rfl (by rw [yC_size]; exact randInfo)) rfl ⟨rfl, C7, B7⟩
set_option maxHeartbeats 4000000 in
set_option maxRecDepth 100000 in
theorem Random_nil (w : World) : Calls Tryd.prog 26 #[.pointer none] w fun e w' => e = .returned (.tuple #[.agg (yC 32 (fun _ => 0)), .int .i64 2]) ∧ Chg w w' [] := by
  have HZ0 : lay (fun _ => 0) 0 0 (fun _ => 0) = (fun _ : Nat => (0 : Nat)) := by funext i; unfold lay; split <;> rfl
  obtain ⟨Z, hZ⟩ : ∃ z, (fun _ : Nat => (0 : Nat)) = z := ⟨_, rfl⟩
  have HR : Hid (lay (fun _ => 0) 0 0 (fun _ => 0) = Z) := HZ0.trans hZ
  have HE : Hid (yC 32 (fun _ => 0) = yC 32 Z) := by show yC 32 _ = _; rw [hZ]
  rw [HE.out]
  clear HZ0 hZ
  go_enter Tryd.func26, Tryd.ntmps26
  go_upto_region 2 with (first
    | (have _h := BR; with_reducible refine alloc_w rfl 69 rfl (.agg (yC 32 (fun _ => 0))) zeroRand (yC 32 (fun _ => 0)) rfl ?_; intro bb w2 hbb BB k2)
    | (with_reducible refine alloc_w rfl 69 rfl (.agg (yC 32 (fun _ => 0))) zeroRand (yC 32 (fun _ => 0)) rfl ?_; intro rb w1 hrb BR k1))
  have K2 := k1.trans1 k2
  have HS : Hid (w.heap.size ≤ rb ∧ rb < bb ∧ w.heap.size ≤ bb) := ⟨hrb, Nat.lt_of_lt_of_le BR.lt hbb, Nat.le_trans k1.size hbb⟩
  have BR2 := BR.chg k2 (by simp)
  clear BR k1 k2 hrb hbb
  go_wp2_with fail
  refine (Draw_nil 32 _ w2).mono ?_
  rintro e w3 ⟨rfl, rfl⟩
  go_wp2_with (first
    | (refine store_w BR6 rfl 69 _ _ (yC 32 Z) rfl rfl rfl (by rw [yC_size]; exact randInfo) (by rw [yC_size, yC_size]) (yC_one 32 _) ?_; intro w7 BR7 k7)
    | (with_reducible refine load_b BB6 69 (.tmp 4) Tryd.underlying69 ?_ ?_ ?_ ?_ ?_ ?_
       · rfl
       · rfl
       · rfl
       · rfl
       · (rw [yC_size]; exact randInfo))
    | (refine copy_z rfl (.tmp 12) (.tmp 13) 22 22 rfl 5 Tryd.underlying22 u8Info bb 0 32 32 none 0 0 rfl rfl #[] 32 (fun _ => 0) #[] 69 BB.seg 0 0 (fun _ => 0) (fun _ => rfl) rfl (fun h0 => by omega) (by omega) ?_; intro w6 BB6 k6; have BR6 := BR2.chg k6 (by have := HS.out; simp; omega); replace BB6 := BB6.unseg; rw [HR.out] at BB6; simp only [Act.put, List.setIfInBounds_toArray, List.set_cons_zero, List.set_cons_succ]))
  have C7 : Chg w w7 [] := (K2.new k6 HS.out.2.2).new k7 HS.out.1
  exact bodyPost_ret (results_cell_tmp Tryd.results26 _ _ rb 69 (yC 32 Z) _ (.int .i64 2) rfl rfl BR7 Tryd.underlying69 rfl (by rw [yC_size]; exact randInfo)) rfl ⟨rfl, C7⟩
set_option maxHeartbeats 4000000 in
set_option maxRecDepth 100000 in
theorem TRandom_nil (w : World) : Calls Tryd.prog 31 #[.pointer none] w fun e w' => e = .returned (.tuple #[.agg (yC 32 (fun _ => 0)), .int .i64 2]) ∧ Chg w w' [] := by
  obtain ⟨Z, hZ⟩ : ∃ z, (fun _ : Nat => (0 : Nat)) = z := ⟨_, rfl⟩
  have HB0 : Hid (Tryd.prog.built 69 [] = some (yC 32 Z)) := by show _ = _; rw [← hZ]; exact builtRand0
  have HE : Hid (yC 32 (fun _ => 0) = yC 32 Z) := by show yC 32 _ = _; rw [hZ]
  rw [HE.out]
  clear hZ
  go_enter Tryd.func31, Tryd.ntmps31
  go_wp2_with (first
    | (have _h := BR; refine wpList_build_c rfl 69 _ rfl (yC 32 Z) (by go_simp; exact HB0.out) ?_)
    | (refine store_w BR rfl 69 _ _ (yC 32 Z) rfl rfl rfl (by rw [yC_size]; exact randInfo) (by rw [yC_size, yC_size]) (yC_one 32 _) ?_; intro w7 BR7 k7)
    | (with_reducible refine alloc_w rfl 69 rfl (.agg (yC 32 (fun _ => 0))) zeroRand (yC 32 (fun _ => 0)) rfl ?_; intro rb w1 hrb BR k1))
  exact bodyPost_ret (results_cell_tmp Tryd.results31 _ _ rb 69 (yC 32 Z) _ (.int .i64 2) rfl rfl BR7 Tryd.underlying69 rfl (by rw [yC_size]; exact randInfo)) rfl ⟨rfl, k1.new k7 hrb⟩
set_option maxHeartbeats 4000000 in
set_option maxRecDepth 100000 in
theorem TRandom_end (tb : Nat) (p : Option Addr) (c : Nat) (w : World) (B : Blk w tb #[.slice p 0 c, .bool true] 147) : Calls Tryd.prog 31 #[.pointer (some ⟨tb, 0, none⟩)] w fun e w' => e = .returned (.tuple #[.agg (yC 32 (fun _ => 0)), .int .i64 122]) ∧ Chg w w' [] := by
  have HB : Hid (Blk w tb #[.slice p 0 c, .bool true] 147) := B
  clear B
  obtain ⟨Z, hZ⟩ : ∃ z, (fun _ : Nat => (0 : Nat)) = z := ⟨_, rfl⟩
  have HB0 : Hid (Tryd.prog.built 69 [] = some (yC 32 Z)) := by show _ = _; rw [← hZ]; exact builtRand0
  have HE : Hid (yC 32 (fun _ => 0) = yC 32 Z) := by show yC 32 _ = _; rw [hZ]
  rw [HE.out]
  clear hZ
  go_enter Tryd.func31, Tryd.ntmps31
  go_wp2_with (first
    | (have _h := BR; refine wpList_build_c rfl 69 _ rfl (yC 32 Z) (by go_simp; exact HB0.out) ?_)
    | (refine store_w BR rfl 69 _ _ (yC 32 Z) rfl rfl rfl (by rw [yC_size]; exact randInfo) (by rw [yC_size, yC_size]) (yC_one 32 _) ?_; intro w7 BR7 k7)
    | (with_reducible refine alloc_w rfl 69 rfl (.agg (yC 32 (fun _ => 0))) zeroRand (yC 32 (fun _ => 0)) rfl ?_; intro rb w1 hrb BR k1; have d0 := tp0 (HB.out.chg k1 (by simp)); have d1 := tp1 (HB.out.chg k1 (by simp))))
  exact bodyPost_ret (results_cell_tmp Tryd.results31 _ _ rb 69 (yC 32 Z) _ (.int .i64 122) rfl rfl BR7 Tryd.underlying69 rfl (by rw [yC_size]; exact randInfo)) rfl ⟨rfl, k1.new k7 hrb⟩
theorem TLeft_nil (w : World) : Calls Tryd.prog 34 #[.pointer none] w fun e w' => e = .returned (.int .i64 0) ∧ w' = w := by
  go_enter Tryd.func34, Tryd.ntmps34
  go_wp2_with fail
  go_ret
  exact ⟨rfl, rfl⟩
end Go.Proofs.YthpfdnkcepfbaaaDoor
