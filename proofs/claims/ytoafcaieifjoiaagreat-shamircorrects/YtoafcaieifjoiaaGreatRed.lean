/- (*number).reduce, mulAdd, mul. -/
import Derived.Test.YtoafcaieifjoiaaGreatProd
set_option linter.unusedVariables false
set_option linter.unusedSimpArgs false
set_option linter.unnecessarySimpa false
namespace Go.Proofs.YtoafcaieifjoiaaGreat
open Go.RowKit N

theorem red_bd (n : Int) (h0 : 0 ≤ n) (h1 : n < 104748499452676539840422070298483172870932545473378073263465323779076281484949585756264642954428933028828373892081922272294952209468332577706512882860032) : 0 ≤ n / 7237005577332262213973186563042994240829374041602535252466099000494570602496 * 27742317777372353535851937790883648493 ∧ n / 7237005577332262213973186563042994240829374041602535252466099000494570602496 * 27742317777372353535851937790883648493 < 837987995621412318723376562387865382967460363787024586107722590232610251879596686050117143635431464230626991136655378178359617675746660621652103062880256 ∧ RL (n / 7237005577332262213973186563042994240829374041602535252466099000494570602496 * 27742317777372353535851937790883648493 / 7237005577332262213973186563042994240829374041602535252466099000494570602496 * 27742317777372353535851937790883648493) ∧ RL (n % 7237005577332262213973186563042994240829374041602535252466099000494570602496) ∧ RL (n / 7237005577332262213973186563042994240829374041602535252466099000494570602496 * 27742317777372353535851937790883648493 % 7237005577332262213973186563042994240829374041602535252466099000494570602496) := by
  unfold RL; refine ⟨?_, ?_, ?_, ?_, ?_⟩ <;> omega
theorem red_val (n : Int) : ((n % 7237005577332262213973186563042994240829374041602535252466099000494570602496 - n / 7237005577332262213973186563042994240829374041602535252466099000494570602496 * 27742317777372353535851937790883648493 % 7237005577332262213973186563042994240829374041602535252466099000494570602496) % L + n / 7237005577332262213973186563042994240829374041602535252466099000494570602496 * 27742317777372353535851937790883648493 / 7237005577332262213973186563042994240829374041602535252466099000494570602496 * 27742317777372353535851937790883648493) % L = n % L := by
  unfold L; omega

set_option maxHeartbeats 4000000 in
set_option maxRecDepth 100000 in
theorem reduce_any (z W : Nat) (n : Int) (hn0 : 0 ≤ n) (hn1 : n < 104748499452676539840422070298483172870932545473378073263465323779076281484949585756264642954428933028828373892081922272294952209468332577706512882860032) (hne : ¬ z = W) (w : World) (hz : An w z) (hW : WideAt w W n) :
    Calls Tryz.prog 125 #[.pointer (some ⟨z, 0, none⟩), .pointer (some ⟨W, 0, none⟩)] w fun e w' => e = .returned (.tuple #[]) ∧ NumAt w' z (n % L) ∧ Chg w w' [z, W] := by
  obtain ⟨b0, b1, b2, b3, b4⟩ := red_bd n hn0 hn1
  have hv := red_val n
  have HV : Hid (((n % 7237005577332262213973186563042994240829374041602535252466099000494570602496 - n / 7237005577332262213973186563042994240829374041602535252466099000494570602496 * 27742317777372353535851937790883648493 % 7237005577332262213973186563042994240829374041602535252466099000494570602496) % L + n / 7237005577332262213973186563042994240829374041602535252466099000494570602496 * 27742317777372353535851937790883648493 / 7237005577332262213973186563042994240829374041602535252466099000494570602496 * 27742317777372353535851937790883648493) % L = n % L) := hv
  clear hv
  have hzl := hz.lt
  have hWl := hW.lt
  have A0 : An ((w.alloc (.cells #[.int .u64 0, .int .u64 0, .int .u64 0, .int .u64 0] 162)).alloc (.cells #[.int .u64 0, .int .u64 0, .int .u64 0, .int .u64 0] 162)) w.heap.size := (NumAt.new w).an.alloc _
  have A1 : An ((w.alloc (.cells #[.int .u64 0, .int .u64 0, .int .u64 0, .int .u64 0] 162)).alloc (.cells #[.int .u64 0, .int .u64 0, .int .u64 0, .int .u64 0] 162)) (w.heap.size + 1) := by have h := (NumAt.new (w.alloc (.cells #[.int .u64 0, .int .u64 0, .int .u64 0, .int .u64 0] 162))).an; simpa using h
  have CC : Chg w ((w.alloc (.cells #[.int .u64 0, .int .u64 0, .int .u64 0, .int .u64 0] 162)).alloc (.cells #[.int .u64 0, .int .u64 0, .int .u64 0, .int .u64 0] 162)) [z, W] := ((Chg.refl w _).alloc _).alloc _
  replace hz := (hz.alloc (.cells #[.int .u64 0, .int .u64 0, .int .u64 0, .int .u64 0] 162)).alloc (.cells #[.int .u64 0, .int .u64 0, .int .u64 0, .int .u64 0] 162)
  replace hW := (hW.alloc (.cells #[.int .u64 0, .int .u64 0, .int .u64 0, .int .u64 0] 162)).alloc (.cells #[.int .u64 0, .int .u64 0, .int .u64 0, .int .u64 0] 162)
  go_enter Tryz.func125, Tryz.ntmps125
  go_wp2_with fail
  have e1 : ¬ W = w.heap.size := by omega
  have e2 : ¬ W = w.heap.size + 1 := by omega
  have e3 : ¬ z = w.heap.size := by omega
  have e4 : ¬ z = w.heap.size + 1 := by omega
  have e5 : ¬ w.heap.size = w.heap.size + 1 := by omega
  have e6 : ¬ w.heap.size + 1 = w.heap.size := by omega
  refine (fold_any W w.heap.size n hn0 (by omega) e1 _ hW A0).mono ?_
  rintro e v1 ⟨rfl, n1, m1, k1⟩
  replace A1 := A1.chg k1 (by simp; omega)
  replace hz := hz.chg k1 (by simp; omega)
  replace CC := CC.trans k1 (by simp)
  clear hW A0 k1
  go_wp2_with fail
  refine (fold_any W (w.heap.size + 1) _ b0 b1 e2 _ m1 A1).mono ?_
  rintro e v2 ⟨rfl, n2, m2, k2⟩
  replace n1 := n1.chg k2 (by simp; omega)
  replace hz := hz.chg k2 (by simp; omega)
  replace CC := CC.trans k2 (by simp)
  clear m1 A1 k2
  go_wp2_with fail
  refine (sub_any z w.heap.size (w.heap.size + 1) _ _ b3 b4 _ hz n1 n2).mono ?_
  rintro e v3 ⟨rfl, n3, k3⟩
  replace m2 := m2.chg (Chg.of k3) (by simp; omega)
  replace CC := CC.trans (Chg.of k3) (by simp)
  clear n1 n2 hz k3
  have HW : Blk v3 W #[.int .u64 (wrd (n / 7237005577332262213973186563042994240829374041602535252466099000494570602496 * 27742317777372353535851937790883648493 / 7237005577332262213973186563042994240829374041602535252466099000494570602496 * 27742317777372353535851937790883648493) 0), .int .u64 (wrd (n / 7237005577332262213973186563042994240829374041602535252466099000494570602496 * 27742317777372353535851937790883648493 / 7237005577332262213973186563042994240829374041602535252466099000494570602496 * 27742317777372353535851937790883648493) 1), .int .u64 (wrd (n / 7237005577332262213973186563042994240829374041602535252466099000494570602496 * 27742317777372353535851937790883648493 / 7237005577332262213973186563042994240829374041602535252466099000494570602496 * 27742317777372353535851937790883648493) 2), .int .u64 (wrd (n / 7237005577332262213973186563042994240829374041602535252466099000494570602496 * 27742317777372353535851937790883648493 / 7237005577332262213973186563042994240829374041602535252466099000494570602496 * 27742317777372353535851937790883648493) 3), .int .u64 (wrd (n / 7237005577332262213973186563042994240829374041602535252466099000494570602496 * 27742317777372353535851937790883648493 / 7237005577332262213973186563042994240829374041602535252466099000494570602496 * 27742317777372353535851937790883648493) 4), .int .u64 (wrd (n / 7237005577332262213973186563042994240829374041602535252466099000494570602496 * 27742317777372353535851937790883648493 / 7237005577332262213973186563042994240829374041602535252466099000494570602496 * 27742317777372353535851937790883648493) 5), .int .u64 (wrd (n / 7237005577332262213973186563042994240829374041602535252466099000494570602496 * 27742317777372353535851937790883648493 / 7237005577332262213973186563042994240829374041602535252466099000494570602496 * 27742317777372353535851937790883648493) 6), .int .u64 (wrd (n / 7237005577332262213973186563042994240829374041602535252466099000494570602496 * 27742317777372353535851937790883648493 / 7237005577332262213973186563042994240829374041602535252466099000494570602496 * 27742317777372353535851937790883648493) 7)] 202 := m2
  clear m2
  have hlt := n3.lt
  have r3 := rl_mod (n % 7237005577332262213973186563042994240829374041602535252466099000494570602496 - n / 7237005577332262213973186563042994240829374041602535252466099000494570602496 * 27742317777372353535851937790883648493 % 7237005577332262213973186563042994240829374041602535252466099000494570602496)
  generalize n / 7237005577332262213973186563042994240829374041602535252466099000494570602496 * 27742317777372353535851937790883648493 / 7237005577332262213973186563042994240829374041602535252466099000494570602496 * 27742317777372353535851937790883648493 = n4 at *
  generalize (n % 7237005577332262213973186563042994240829374041602535252466099000494570602496 - n / 7237005577332262213973186563042994240829374041602535252466099000494570602496 * 27742317777372353535851937790883648493 % 7237005577332262213973186563042994240829374041602535252466099000494570602496) % L = n5 at *
  go_wp2_with fail
  refine wp_region_held_drew (S := fun w' => Chg v3 w' [z]) (by kernel_rfl) ((Chg.refl v3 _).drew) (fun hHeld => ?_)
  refine tv (v := ?_) 0 (some 12) rfl (by kernel_rfl) (fun _ _ _ h => h) rfl rfl (fun w hSw => ?_) hHeld ?_; rotate_left; (· (go_simp; try with_reducible rfl)); try simp only [Act.put, sA1, sA2, sA3]
  refine tv (v := ?_) 1 (some 13) rfl (by kernel_rfl) (fun _ _ _ h => h) rfl rfl (fun w hSw => ?_) hHeld ?_; rotate_left; (· (go_simp; try with_reducible rfl)); try simp only [Act.put, sA1, sA2, sA3]
  refine tv (v := ?_) 2 (some 14) rfl (by kernel_rfl) (fun _ _ _ h => h) rfl rfl (fun w hSw => ?_) hHeld ?_; rotate_left; (· (go_simp; try with_reducible rfl)); try simp only [Act.put, sA1, sA2, sA3]
  refine tv (v := ?_) 3 (some 15) rfl (by kernel_rfl) (fun _ _ _ h => h) rfl rfl (fun w hSw => ?_) hHeld ?_; rotate_left; (· (go_simp; try with_reducible rfl)); try simp only [Act.put, sA1, sA2, sA3]
  refine tv (v := ?_) 4 (some 16) rfl (by kernel_rfl) (fun _ _ _ h => h) rfl rfl (fun w hSw => ?_) hHeld ?_; rotate_left; (· (go_simp; try with_reducible rfl)); try simp only [Act.put, sA1, sA2, sA3]
  refine tv (v := ?_) 5 (some 17) rfl (by kernel_rfl) (fun _ _ _ h => h) rfl rfl (fun w hSw => ?_) hHeld ?_
  rotate_left
  · have cx := (HW.chg hSw (by simp; omega)).cell 0
    (go_simp; try with_reducible rfl)
  try simp only [Act.put, sA1, sA2, sA3]
  refine tv (v := ?_) 6 (some 18) rfl (by kernel_rfl) (fun _ _ _ h => h) rfl rfl (fun w hSw => ?_) hHeld ?_; rotate_left; (· (go_simp; try with_reducible rfl)); try simp only [Act.put, sA1, sA2, sA3]
  refine tv (v := ?_) 7 (some 19) rfl (by kernel_rfl) (fun _ _ _ h => h) rfl rfl (fun w hSw => ?_) hHeld ?_; rotate_left; (· (go_simp; try with_reducible rfl)); try simp only [Act.put, sA1, sA2, sA3]
  refine tv (v := ?_) 8 (some 20) rfl (by kernel_rfl) (fun _ _ _ h => h) rfl rfl (fun w hSw => ?_) hHeld ?_; rotate_left; (· (go_simp; try with_reducible rfl)); try simp only [Act.put, sA1, sA2, sA3]
  refine tv (v := ?_) 9 (some 21) rfl (by kernel_rfl) (fun _ _ _ h => h) rfl rfl (fun w hSw => ?_) hHeld ?_
  rotate_left
  · have cx := (HW.chg hSw (by simp; omega)).cell 1
    (go_simp; try with_reducible rfl)
  try simp only [Act.put, sA1, sA2, sA3]
  refine tv (v := ?_) 10 (some 22) rfl (by kernel_rfl) (fun _ _ _ h => h) rfl rfl (fun w hSw => ?_) hHeld ?_; rotate_left; (· (go_simp; try with_reducible rfl)); try simp only [Act.put, sA1, sA2, sA3]
  refine tv (v := ?_) 11 (some 23) rfl (by kernel_rfl) (fun _ _ _ h => h) rfl rfl (fun w hSw => ?_) hHeld ?_; rotate_left; (· (go_simp; try with_reducible rfl)); try simp only [Act.put, sA1, sA2, sA3]
  refine tv (v := ?_) 12 (some 24) rfl (by kernel_rfl) (fun _ _ _ h => h) rfl rfl (fun w hSw => ?_) hHeld ?_; rotate_left; (· (go_simp; try with_reducible rfl)); try simp only [Act.put, sA1, sA2, sA3]
  refine tv (v := ?_) 13 (some 25) rfl (by kernel_rfl) (fun _ _ _ h => h) rfl rfl (fun w hSw => ?_) hHeld ?_
  rotate_left
  · have cx := (HW.chg hSw (by simp; omega)).cell 2
    (go_simp; try with_reducible rfl)
  try simp only [Act.put, sA1, sA2, sA3]
  refine tv (v := ?_) 14 (some 26) rfl (by kernel_rfl) (fun _ _ _ h => h) rfl rfl (fun w hSw => ?_) hHeld ?_; rotate_left; (· (go_simp; try with_reducible rfl)); try simp only [Act.put, sA1, sA2, sA3]
  refine tv (v := ?_) 15 (some 27) rfl (by kernel_rfl) (fun _ _ _ h => h) rfl rfl (fun w hSw => ?_) hHeld ?_; rotate_left; (· (go_simp; try with_reducible rfl)); try simp only [Act.put, sA1, sA2, sA3]
  refine tv (v := ?_) 16 (some 28) rfl (by kernel_rfl) (fun _ _ _ h => h) rfl rfl (fun w hSw => ?_) hHeld ?_; rotate_left; (· (go_simp; try with_reducible rfl)); try simp only [Act.put, sA1, sA2, sA3]
  refine tv (v := ?_) 17 (some 29) rfl (by kernel_rfl) (fun _ _ _ h => h) rfl rfl (fun w hSw => ?_) hHeld ?_
  rotate_left
  · have cx := (HW.chg hSw (by simp; omega)).cell 3
    (go_simp; try with_reducible rfl)
  try simp only [Act.put, sA1, sA2, sA3]
  refine tv (v := ?_) 18 (some 30) rfl (by kernel_rfl) (fun _ _ _ h => h) rfl rfl (fun w hSw => ?_) hHeld ?_; rotate_left; (· (go_simp; try with_reducible rfl)); try simp only [Act.put, sA1, sA2, sA3]
  refine wpAnyH_ready (rs := [19]) (by kernel_rfl) (by simp) ?_
  refine AllReadyH.cons (o := _) rfl (fun K hK => ?_) ?_
  ·
    rw [if_pos (by rfl)]
    go_simp
    refine hK.out _ _ (hHeld.alloc _) (fun hHeld => ?_)
    clear hK K
    try simp only [Act.put, sA1, sA2, sA3]
    refine wpAnyH_ready (rs := [20]) (by kernel_rfl) (by simp) ?_
    refine AllReadyH.cons (o := _) rfl (fun K hK => ?_) ?_
    ·
      go_simp
      have n6 : NumAt (v3.drew.alloc (.cells (wd4 n4) 162)) v3.heap.size n4 := Blk.new v3.drew _ _
      have n7 : NumAt (v3.drew.alloc (.cells (wd4 n4) 162)) z n5 := NumAt.alloc n3 _
      refine (add_any z z v3.heap.size _ _ r3 b2 _ n7.an n7 n6).mono ?_
      rintro e v4 ⟨rfl, n8, k4⟩
      go_wp2_with fail
      refine hK.out _ _ (hHeld.trans1 (Chg.of k4)) (fun hHeld => ?_)
      clear hK K
      try simp only [Act.put, sA1, sA2, sA3]
      refine wpAnyH_done (by kernel_rfl) ?_ _
      go_wp2_with fail
      go_end0
      exact ⟨rfl, by rw [← HV.out]; exact n8, CC.trans hHeld (by simp)⟩
    exact AllReadyH.nil
  exact AllReadyH.nil
theorem wd8_small (k : Int) (h0 : 0 ≤ k) (h1 : k < 115792089237316195423570985008687907853269984665640564039457584007913129639936) : #[.int .u64 (wrd k 0), .int .u64 (wrd k 1), .int .u64 (wrd k 2), .int .u64 (wrd k 3), .int .u64 0, .int .u64 0, .int .u64 0, .int .u64 0] = wd8 k := by
  unfold wd8
  have e4 : wrd k 4 = 0 := by rw [wrd4]; omega
  have e5 : wrd k 5 = 0 := by rw [wrd5]; omega
  have e6 : wrd k 6 = 0 := by rw [wrd6]; omega
  have e7 : wrd k 7 = 0 := by rw [wrd7]; omega
  rw [e4, e5, e6, e7]
theorem prod_bd (k n m : Int) (hk : RL k) (hn : RL n) (hm : RL m) : 0 ≤ k + n * m ∧ k + n * m < 104748499452676539840422070298483172870932545473378073263465323779076281484949585756264642954428933028828373892081922272294952209468332577706512882860032 := by
  unfold RL at *
  have h0 := Int.mul_nonneg hn.1 hm.1
  have h1 := Int.mul_le_mul (show n ≤ 7237005577332262213973186563042994240857116359379907606001950938285454250989 by omega) (show m ≤ 7237005577332262213973186563042994240857116359379907606001950938285454250989 by omega) hm.1 (by decide)
  omega
theorem wideInfo : (Tryz.prog.info? 202).map (·.size) = some 8 := by kernel_rfl

set_option maxHeartbeats 4000000 in
set_option maxRecDepth 100000 in
theorem mulAdd_any (z x y a : Nat) (n m k : Int) (rn : RL n) (rm : RL m) (rk : RL k) (w : World) (hz : An w z) (hx : NumAt w x n) (hy : NumAt w y m) (ha : NumAt w a k) :
    Calls Tryz.prog 97 #[.pointer (some ⟨z, 0, none⟩), .pointer (some ⟨x, 0, none⟩), .pointer (some ⟨y, 0, none⟩), .pointer (some ⟨a, 0, none⟩)] w fun e w' => e = .returned (.tuple #[]) ∧ NumAt w' z ((k + n * m) % L) ∧ Chg w w' [z] := by
  have hzl := hz.lt
  obtain ⟨pb0, pb1⟩ := prod_bd k n m rk rn rm
  have hs := wd8_small k rk.1 (by unfold RL at rk; omega)
  have HS : Hid (#[.int .u64 (wrd k 0), .int .u64 (wrd k 1), .int .u64 (wrd k 2), .int .u64 (wrd k 3), .int .u64 0, .int .u64 0, .int .u64 0, .int .u64 0] = wd8 k) := hs
  clear hs
  go_enter Tryz.func97, Tryz.ntmps97
  go_wp2_with fail
  refine wp_region_held_drew (S := fun w' => Chg w w' []) (by kernel_rfl) ((Chg.refl w _).drew) (fun hHeld => ?_)
  refine tv (v := ?_) 0 (some 9) rfl (by kernel_rfl) (fun _ _ _ h => h) rfl rfl (fun w hSw => ?_) hHeld ?_; rotate_left; (· (go_simp; try with_reducible rfl)); try simp only [Act.put, sA1, sA2, sA3]
  refine tv (v := ?_) 1 (some 10) rfl (by kernel_rfl) (fun _ _ _ h => h) rfl rfl (fun w hSw => ?_) hHeld ?_; rotate_left; (· (go_simp; try with_reducible rfl)); try simp only [Act.put, sA1, sA2, sA3]
  refine tv (v := ?_) 2 (some 11) rfl (by kernel_rfl) (fun _ _ _ h => h) rfl rfl (fun w hSw => ?_) hHeld ?_; rotate_left; (· (go_simp; try with_reducible rfl)); try simp only [Act.put, sA1, sA2, sA3]
  refine tv (v := ?_) 3 (some 12) rfl (by kernel_rfl) (fun _ _ _ h => h) rfl rfl (fun w hSw => ?_) hHeld ?_
  rotate_left
  · have cx := (NumAt.chg ha hSw (by simp)).c0
    (go_simp; try with_reducible rfl)
  try simp only [Act.put, sA1, sA2, sA3]
  refine tv (v := ?_) 4 (some 13) rfl (by kernel_rfl) (fun _ _ _ h => h) rfl rfl (fun w hSw => ?_) hHeld ?_; rotate_left; (· (go_simp; try with_reducible rfl)); try simp only [Act.put, sA1, sA2, sA3]
  refine tv (v := ?_) 5 (some 14) rfl (by kernel_rfl) (fun _ _ _ h => h) rfl rfl (fun w hSw => ?_) hHeld ?_; rotate_left; (· (go_simp; try with_reducible rfl)); try simp only [Act.put, sA1, sA2, sA3]
  refine tv (v := ?_) 6 (some 15) rfl (by kernel_rfl) (fun _ _ _ h => h) rfl rfl (fun w hSw => ?_) hHeld ?_; rotate_left; (· (go_simp; try with_reducible rfl)); try simp only [Act.put, sA1, sA2, sA3]
  refine tv (v := ?_) 7 (some 16) rfl (by kernel_rfl) (fun _ _ _ h => h) rfl rfl (fun w hSw => ?_) hHeld ?_
  rotate_left
  · have cx := (NumAt.chg ha hSw (by simp)).c1
    (go_simp; try with_reducible rfl)
  try simp only [Act.put, sA1, sA2, sA3]
  refine tv (v := ?_) 8 (some 17) rfl (by kernel_rfl) (fun _ _ _ h => h) rfl rfl (fun w hSw => ?_) hHeld ?_; rotate_left; (· (go_simp; try with_reducible rfl)); try simp only [Act.put, sA1, sA2, sA3]
  refine tv (v := ?_) 9 (some 18) rfl (by kernel_rfl) (fun _ _ _ h => h) rfl rfl (fun w hSw => ?_) hHeld ?_; rotate_left; (· (go_simp; try with_reducible rfl)); try simp only [Act.put, sA1, sA2, sA3]
  refine tv (v := ?_) 10 (some 19) rfl (by kernel_rfl) (fun _ _ _ h => h) rfl rfl (fun w hSw => ?_) hHeld ?_; rotate_left; (· (go_simp; try with_reducible rfl)); try simp only [Act.put, sA1, sA2, sA3]
  refine tv (v := ?_) 11 (some 20) rfl (by kernel_rfl) (fun _ _ _ h => h) rfl rfl (fun w hSw => ?_) hHeld ?_
  rotate_left
  · have cx := (NumAt.chg ha hSw (by simp)).c2
    (go_simp; try with_reducible rfl)
  try simp only [Act.put, sA1, sA2, sA3]
  refine tv (v := ?_) 12 (some 21) rfl (by kernel_rfl) (fun _ _ _ h => h) rfl rfl (fun w hSw => ?_) hHeld ?_; rotate_left; (· (go_simp; try with_reducible rfl)); try simp only [Act.put, sA1, sA2, sA3]
  refine tv (v := ?_) 13 (some 22) rfl (by kernel_rfl) (fun _ _ _ h => h) rfl rfl (fun w hSw => ?_) hHeld ?_; rotate_left; (· (go_simp; try with_reducible rfl)); try simp only [Act.put, sA1, sA2, sA3]
  refine tv (v := ?_) 14 (some 23) rfl (by kernel_rfl) (fun _ _ _ h => h) rfl rfl (fun w hSw => ?_) hHeld ?_; rotate_left; (· (go_simp; try with_reducible rfl)); try simp only [Act.put, sA1, sA2, sA3]
  refine tv (v := ?_) 15 (some 24) rfl (by kernel_rfl) (fun _ _ _ h => h) rfl rfl (fun w hSw => ?_) hHeld ?_
  rotate_left
  · have cx := (NumAt.chg ha hSw (by simp)).c3
    (go_simp; try with_reducible rfl)
  try simp only [Act.put, sA1, sA2, sA3]
  refine tv (v := ?_) 16 (some 25) rfl (by kernel_rfl) (fun _ _ _ h => h) rfl rfl (fun w hSw => ?_) hHeld ?_; rotate_left; (· (go_simp; try with_reducible rfl)); try simp only [Act.put, sA1, sA2, sA3]
  refine wpAnyH_ready (rs := [17]) (by kernel_rfl) (by simp) ?_
  refine AllReadyH.cons (o := _) rfl (fun K hK => ?_) ?_
  ·
    rw [if_pos (by rfl)]
    go_simp
    refine hK.out _ _ (hHeld.alloc _) (fun hHeld => ?_)
    clear hK K
    try simp only [Act.put, sA1, sA2, sA3]
    refine wpAnyH_ready (rs := [18]) (by kernel_rfl) (by simp) ?_
    refine AllReadyH.cons (o := _) rfl (fun K hK => ?_) ?_
    ·
      rw [if_pos (by rfl)]
      refine wp_store_row 202 _ _ rfl w.heap.size _ rfl rfl 202 _ (Blk.new w #[.int .u64 0, .int .u64 0, .int .u64 0, .int .u64 0, .int .u64 0, .int .u64 0, .int .u64 0, .int .u64 0] 202).drew wideInfo rfl (by simp [Value.oneCell']) ?_
      refine hK.out _ _ (hHeld.setRowNew (Nat.le_refl _) _) (fun hHeld => ?_)
      clear hK K
      try simp only [Act.put, sA1, sA2, sA3]
      refine wpAnyH_done (by kernel_rfl) ?_ _
      have HW : WideAt (((w.alloc (.cells #[.int .u64 0, .int .u64 0, .int .u64 0, .int .u64 0, .int .u64 0, .int .u64 0, .int .u64 0, .int .u64 0] 202)).drew).setRow w.heap.size #[.int .u64 (wrd k 0), .int .u64 (wrd k 1), .int .u64 (wrd k 2), .int .u64 (wrd k 3), .int .u64 0, .int .u64 0, .int .u64 0, .int .u64 0]) w.heap.size k := by
        have h := (Blk.new w #[.int .u64 0, .int .u64 0, .int .u64 0, .int .u64 0, .int .u64 0, .int .u64 0, .int .u64 0, .int .u64 0] 202).drew.setRow #[.int .u64 (wrd k 0), .int .u64 (wrd k 1), .int .u64 (wrd k 2), .int .u64 (wrd k 3), .int .u64 0, .int .u64 0, .int .u64 0, .int .u64 0]
        rw [HS.out] at h
        rw [HS.out]
        exact h
      replace hz := hz.chg hHeld (by simp)
      replace hx := hx.chg hHeld (by simp)
      replace hy := hy.chg hHeld (by simp)
      have CC : Chg w (((w.alloc (.cells #[.int .u64 0, .int .u64 0, .int .u64 0, .int .u64 0, .int .u64 0, .int .u64 0, .int .u64 0, .int .u64 0] 202)).drew).setRow w.heap.size #[.int .u64 (wrd k 0), .int .u64 (wrd k 1), .int .u64 (wrd k 2), .int .u64 (wrd k 3), .int .u64 0, .int .u64 0, .int .u64 0, .int .u64 0]) [z] := hHeld.wide
      clear hHeld ha HS
      generalize ((w.alloc (.cells #[.int .u64 0, .int .u64 0, .int .u64 0, .int .u64 0, .int .u64 0, .int .u64 0, .int .u64 0, .int .u64 0] 202)).drew).setRow w.heap.size #[.int .u64 (wrd k 0), .int .u64 (wrd k 1), .int .u64 (wrd k 2), .int .u64 (wrd k 3), .int .u64 0, .int .u64 0, .int .u64 0, .int .u64 0] = v0 at *
      go_wp2_with fail
      refine (addProduct_any w.heap.size x y k n m rk.1 (by unfold RL at rk; omega) rn rm _ HW hx hy).mono ?_
      rintro e v1 ⟨rfl, W1, k1⟩
      replace hz := hz.chg k1 (by simp; omega)
      replace CC := CC.new k1 (by omega)
      clear HW hx hy k1
      go_wp2_with fail
      refine (reduce_any z w.heap.size _ pb0 pb1 (by omega) _ hz W1).mono ?_
      rintro e v2 ⟨rfl, n2, k2⟩
      replace CC := CC.trans k2 (by simp)
      go_wp2_with fail
      go_end0
      exact ⟨rfl, n2, CC⟩
    exact AllReadyH.nil
  exact AllReadyH.nil
set_option maxHeartbeats 4000000 in
set_option maxRecDepth 100000 in
theorem mul_any (z x y : Nat) (n m : Int) (rn : RL n) (rm : RL m) (w : World) (hz : An w z) (hx : NumAt w x n) (hy : NumAt w y m) :
    Calls Tryz.prog 102 #[.pointer (some ⟨z, 0, none⟩), .pointer (some ⟨x, 0, none⟩), .pointer (some ⟨y, 0, none⟩)] w fun e w' => e = .returned (.tuple #[]) ∧ NumAt w' z (n * m % L) ∧ Chg w w' [z] := by
  have hn := NumAt.new w
  go_enter Tryz.func102, Tryz.ntmps102
  go_wp2_with fail
  refine (mulAdd_any z x y w.heap.size n m 0 rn rm ⟨by omega, by omega⟩ _ (hz.alloc _) (hx.alloc _) (hy.alloc _) hn).mono ?_
  rintro e v1 ⟨rfl, n1, k1⟩
  go_wp2_with fail
  go_end0
  rw [Int.zero_add] at n1
  exact ⟨rfl, n1, ((Chg.refl w [z]).alloc _).trans1 k1⟩
end Go.Proofs.YtoafcaieifjoiaaGreat
