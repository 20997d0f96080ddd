/- rimelaw10.WireSpoilt: the walk. -/
import Derived.Test.YtgfeopingompdabDoorW50t
import Derived.Test.YtgfeopingompdabDoorW51
import Derived.Test.YtgfeopingompdabDoorW52
import Derived.Test.YtgfeopingompdabDoorW30
import Derived.Test.YtgfeopingompdabDoorMwG
set_option linter.unusedVariables false
set_option linter.unusedSimpArgs false
set_option linter.unnecessarySimpa false
namespace Go.Proofs.YtgfeopingompdabDoor
open Go.RowKit

theorem fault_any (w0 : World) (hP : Pw w0) (g : Nat) (s : ByteArray) (a y : Nat) (hs : s.size ≤ 1000) (hs0 : s.toList ≠ s0E.toList) (ha : a ≤ 9223372036854775807) (hy : y ≤ 9223372036854775807) (w : World) (hw : Chg w0 w []) (h : Blk w g (ftC s a y) 62) :
    Calls Tryd.prog 10 #[.iface 59 (.pointer (some ⟨g, 0, none⟩)), .agg (ftC s a y)] w fun e w' => e = .returned (.bool true) ∧ Chg w w' [] :=
  fault_g w0 g s (dgS a) (dgS y) a y hs (itg hP a ha) (itg hP y hy) (fun W => dec_g a a (Nat.le_refl _) ha W) (fun W => None_f s a y hs0 W) w hw h
theorem EnP.ne {m : Ms} {N : Nat} {d : Nat → Int} {M : Nat} {s : ByteArray} {a y : Nat} (h : EnP m N d M s a y) : s.toList ≠ s0E.toList := by
  rcases h with ⟨_, rfl, _⟩ | ⟨_, _, rfl, _⟩ | ⟨_, _, _, rfl, _⟩ | ⟨_, _, _, ⟨_, _, rfl, _⟩ | ⟨_, ⟨_, rfl, _⟩ | ⟨_, _, _, _, rfl, _⟩ | ⟨_, _, _, rfl, _⟩⟩ | ⟨_, _, rfl, _⟩⟩ <;> exact ne_s0 (List.cons_ne_nil _ _)
theorem EnP.no {m : Ms} {N : Nat} {d : Nat → Int} {M : Nat} {s : ByteArray} {a y : Nat} (h : EnP m N d M s a y) : ¬ EnG m N d M := by
  rintro ⟨g1, g2, g3, g4, g5, g6⟩
  rcases h with ⟨h, _⟩ | ⟨_, h, _⟩ | ⟨_, _, h, _⟩ | ⟨_, _, _, ⟨k, h, _⟩ | ⟨k, ⟨h, _⟩ | ⟨_, h1, h, _⟩ | ⟨_, _, h, _⟩⟩ | ⟨k, h, _⟩⟩
  · exact h g1
  · exact h g2
  · exact h g3
  · exact h (g4 k)
  · have := (g5 k).1; omega
  · exact h ((g5 k).2.1 _ h1)
  · have := (g5 k).2.2; omega
  · exact h (g6 k)
theorem CrP.ne {m : Ms} {N : Nat} {d : Nat → Int} {M : Nat} {s : ByteArray} {a y : Nat} (h : CrP m N d M s a y) (hn : ¬ EnG m N d M) : s.toList ≠ s0E.toList := by
  rcases h with ⟨h, _⟩ | h
  · exact absurd h hn
  · exact h.ne
theorem CrP.eq {m : Ms} {N : Nat} {d : Nat → Int} {M : Nat} {s : ByteArray} {a y : Nat} (h : CrP m N d M s a y) (hn : EnG m N d M) : s = s0E := by
  rcases h with ⟨_, h, _⟩ | h
  · exact h
  · exact absurd hn h.no
theorem i64_and3 (n : Int) : bits .and .i64 n 3 = n % 4 := by
  have h3 : (BitVec.ofInt 64 3).toNat = 2 ^ 2 - 1 := by decide
  have key : (BitVec.ofInt 64 n &&& BitVec.ofInt 64 3).toNat = (n % ((2 ^ 64 : Nat) : Int)).toNat % 2 ^ 2 := by
    rw [BitVec.toNat_and, BitVec.toNat_ofInt, h3, Nat.and_two_pow_sub_one_eq_mod]
  show IntKind.i64.wrap ((BitVec.ofInt 64 n &&& BitVec.ofInt 64 3).toNat : Nat) = n % 4
  rw [key, IntKind.wrap_i64]
  omega
/-- The first n cells are the bytes f. -/
def LoW (C : Array Value) (n : Nat) (f : Nat → Nat) : Prop := ∀ i, i < n → C[i]? = some (.int .u8 ((f i : Nat) : Int))
theorem LoW.set {C : Array Value} {n : Nat} {f : Nat → Nat} (h : LoW C n f) (j x : Nat) : LoW (C.setIfInBounds j (.int .u8 ((x : Nat) : Int))) n (tuF f j x) := fun i hi => by
  rw [Array.getElem?_setIfInBounds]
  unfold tuF
  by_cases hj : j = i
  · subst hj
    have hs : j < C.size := by
      by_cases hs : j < C.size
      · exact hs
      · have := h j hi
        rw [Array.getElem?_eq_none (by omega)] at this
        cases this
    rw [if_pos rfl, if_pos hs, if_pos rfl]
  · rw [if_neg hj, if_neg (fun e => hj e.symm)]
    exact h i hi
theorem Own.loW {w : World} {base : Nat} {v : Value} {n : Nat} {f : Nat → Nat} (h : Own w base v n f) (h0 : 0 < n) : ∃ g c C, v = .slice (some ⟨g, 0, none⟩) n c ∧ base ≤ g ∧ n ≤ c ∧ c ≤ 9223372036854775807 ∧ Blk w g C 5 ∧ LoW C n f := by
  obtain ⟨⟨_, h1⟩, _⟩ := h
  rcases h1 with ⟨_, h1⟩ | ⟨g, cap, cur, rfl, hg, hh, hc, hm, hs, ht⟩
  · omega
  · refine ⟨g, cap, cur, rfl, hg, hc, by simpa [maxLen] using hm, hh, fun i hi => ?_⟩
    have e := congrArg (fun l => l[i]?) ht
    simp only [Nat.mul_one] at e
    rw [List.getElem?_take_of_lt hi, yL_get _ _ _ hi, Array.getElem?_toList] at e
    exact e
theorem LoW.bs {w : World} {g : Nat} {C : Array Value} {n : Nat} {f : Nat → Nat} (h : LoW C n f) (hb : Blk w g C 5) (hf : ∀ i, i < n → f i < 256) : Bs w g 0 n f :=
  ⟨hb.lt, hf, fun i hi => by rw [hb.cell, Nat.zero_add]; exact h _ hi⟩
theorem Same0 (w : World) : Calls Tryd.prog 9 #[.agg (msC (ms0 0)), .agg (msC (ms0 0))] w fun e w' => e = .returned (.bool true) ∧ Chg w w' [] :=
  SameMsg_t (ms0 0) 0 (fun _ => 0) (fun _ _ => 0) (fun _ _ => 0) 0 (fun _ => 0) (ms0 0) 0 (fun _ => 0) (fun _ _ => 0) (fun _ _ => 0) 0 (fun _ => 0) w
    ⟨⟨cF_ok 0 _ _ _, Or.inl ⟨rfl, rfl⟩⟩, fun i hi => by omega⟩ (Sl.zb (Or.inl ⟨rfl, rfl⟩)) ⟨⟨cF_ok 0 _ _ _, Or.inl ⟨rfl, rfl⟩⟩, fun i hi => by omega⟩ (Sl.zb (Or.inl ⟨rfl, rfl⟩)) (by kernel_rfl)
theorem builtM0 : Tryd.prog.built 35 [] = some (msC (ms0 0)) := by kernel_rfl
theorem sSum_ne : sSum.toList ≠ s0E.toList := ne_s0 (List.cons_ne_nil _ _)
set_option maxHeartbeats 16000000 in
set_option maxRecDepth 100000 in
theorem spoilt_walk (m : Ms) (N : Nat) (d : Nat → Int) (h b : Nat → Nat → Nat) (M : Nat) (ft : Nat → Nat) (hm : MsB m) (at' : Int) (by' : Nat) (hby : by' < 256) (w : World) (hG : Gl w) (hP : Pw w) (hL : Cl w m.list N d h b) (hT : Sl w m.text M ft) :
    Calls Tryd.prog 3 #[.agg (msC m), .int .i64 at', .int .u8 ((by' : Nat) : Int)] w fun e w' => e = .returned (.bool true) ∧ Chg w w' [] := by
  have HWK : Hid (∀ W, Chg w W [] → Calls Tryd.prog 4 #[] W fun e w' => e = .returned (.bool true) ∧ Chg W w' []) := fun W k => works_s W (hG.chg k (by simp) (by simp))
  have HEN : Hid (∀ W, Chg w W [] → Calls Tryd.prog 5 #[.agg (msC m)] W fun e w' => EnQ2 m N d h b M ft W e w') := fun W k => Encode_s m N d h b M ft hm W (hG.chg k (by simp) (by simp)) (hL.chg k) (hT.chg k (by simp [Off]))
  have HCK : Hid (∀ W, Chg w W [] → Calls Tryd.prog 6 #[.agg (msC m)] W fun e w' => ∃ s a y, e = .returned (.agg (ftC s a y)) ∧ CrP m N d M s a y ∧ Chg W w' []) := fun W k => Check_r m N d h b M ft W (hL.chg k) (hT.chg k (by simp [Off]))
  have HG : Hid (Gl w) := hG
  have HP : Hid (Pw w) := hP
  have HB : Hid (by' < 256) := hby
  clear hm hG hP hL hT hby
  go_enter Tryd.func3, Tryd.ntmps3
  go_wp2_with (refine box_w rfl 35 _ rfl (msC m) rfl ?_; intro mb w1 hmb BM k1)
  refine (HWK.out w1 k1).mono ?_
  rintro e w2 ⟨rfl, k2⟩
  have BM2 := BM.chg k2 (by simp)
  have K2 := k1.trans1 k2
  clear BM k1 k2
  go_wp2_with (refine wpList_load_row rfl 35 _ rfl mb rfl 35 _ (0, 0) _ BM2 Tryd.underlying35 rfl (by rw [msC_size]; exact msInfoW) ?_)
  refine (HEN.out w2 K2).mono ?_
  rintro e w3 (⟨hg, v, rfl, ⟨s, a, y, hEP, hF⟩, k3⟩ | ⟨hg, v, rfl, hO, k3⟩)
  · obtain ⟨gf, rfl, hgf, BF⟩ := hF
    have HGN : Hid (¬ EnG m N d M) := hg
    have BM3 := BM2.chg k3 (by simp)
    have K3 := K2.trans1 k3
    clear hg hEP hgf BF BM2 K2 k3 hmb
    go_wp2_with fail
    have hHeld : Blk w3.drew mb (msC m) 35 := BM3.drew
    have C3 := K3.drew
    refine lt_begin (fun w' => Blk w' mb (msC m) 35) (fun _ => false) (by kernel_rfl) ?_
    obtain ⟨z, hz⟩ : ∃ z, z = w3.drew := ⟨_, rfl⟩
    rw [← hz] at hHeld C3 ⊢
    clear hz BM3 K3
    refine lt_val (v := ?_) 0 (some 25) rfl (by kernel_rfl) (by kernel_rfl) (by kernel_rfl) (fun _ _ _ h => h) rfl rfl (fun w => ?_) ?_
    rotate_left
    · (go_simp; try with_reducible rfl)
    try simp only [Act.put, List.setIfInBounds_toArray, List.set_cons_zero, List.set_cons_succ]
    refine lt_val (v := (.bool false)) 1 (some 26) rfl (by kernel_rfl) (by kernel_rfl) (by kernel_rfl) (fun _ _ _ h => h) rfl rfl (fun w => ?_) ?_
    · (go_simp; try with_reducible rfl)
    try simp only [Act.put, List.setIfInBounds_toArray, List.set_cons_zero, List.set_cons_succ]
    refine lt_read (v := (.agg (msC m))) 2 (some 27) rfl (by kernel_rfl) (by kernel_rfl) (by kernel_rfl) (by kernel_rfl) (fun _ _ _ h => h) rfl rfl (fun w hSw => ?_) hHeld ?_
    · exact exec_load_m w 35 _ rfl mb 0 rfl (msL m) _ (ms_rg hSw 0 _ (fun j _ => by rw [Nat.zero_add])) Tryd.underlying35 rfl (by rw [msL_len]; exact msInfoW)
    try simp only [Act.put, List.setIfInBounds_toArray, List.set_cons_zero, List.set_cons_succ]
    refine lt_one 3 rfl (by kernel_rfl) rfl (fun K hK => ?_)
    go_simp
    refine (HCK.out z C3).mono ?_
    rintro e w4 ⟨s', a', y', rfl, hcr, k4⟩
    go_wp2_with fail
    refine hK.out _ _ (fun _ h => h.chg k4 (by simp)) ?_
    replace hHeld := hHeld.chg k4 (by simp)
    have C4 := C3.trans1 k4
    clear C3 k4
    clear hK K
    try simp only [Act.put, List.setIfInBounds_toArray, List.set_cons_zero, List.set_cons_succ]
    refine lt_one 4 rfl (by kernel_rfl) rfl (fun K hK => ?_)
    go_simp
    refine (None_f s' a' y' (hcr.ne HGN.out) w4).mono ?_
    rintro e w5 ⟨rfl, k5⟩
    go_wp2_with fail
    refine hK.out _ _ (fun _ h => h.chg k5 (by simp)) ?_
    replace hHeld := hHeld.chg k5 (by simp)
    have C5 := C4.trans1 k5
    clear C4 k5
    clear hK K
    try simp only [Act.put, List.setIfInBounds_toArray, List.set_cons_zero, List.set_cons_succ]
    refine lt_val (v := (.bool true)) 5 (some 30) rfl (by kernel_rfl) (by kernel_rfl) (by kernel_rfl) (fun _ _ _ h => h) rfl rfl (fun w => ?_) ?_
    · (go_simp; try with_reducible rfl)
    try simp only [Act.put, List.setIfInBounds_toArray, List.set_cons_zero, List.set_cons_succ]
    refine lt_val (v := ?_) 6 (some 6) rfl (by kernel_rfl) (by kernel_rfl) (by kernel_rfl) (fun _ _ _ h => h) rfl rfl (fun w => ?_) ?_
    rotate_left
    · (go_simp; try with_reducible rfl)
    try simp only [Act.put, List.setIfInBounds_toArray, List.set_cons_zero, List.set_cons_succ]
    refine lt_done (by kernel_rfl) ?_ _
    go_wp2_with fail
    go_ret
    exact ⟨rfl, C5⟩
  · have HGN : Hid (EnG m N d M) := hg
    have BM3 := BM2.chg k3 (by simp)
    have K3 := K2.trans1 k3
    by_cases hb0 : by' = 0
    · subst hb0
      clear hg hO BM2 K2 k3 hmb HB
      go_wp2_with fail
      have hHeld : Blk w3.drew mb (msC m) 35 := BM3.drew
      have C3 := K3.drew
      refine lt_begin (fun w' => Blk w' mb (msC m) 35) (fun _ => false) (by kernel_rfl) ?_
      obtain ⟨z, hz⟩ : ∃ z, z = w3.drew := ⟨_, rfl⟩
      rw [← hz] at hHeld C3 ⊢
      clear hz BM3 K3
      refine lt_val (v := ?_) 0 (some 25) rfl (by kernel_rfl) (by kernel_rfl) (by kernel_rfl) (fun _ _ _ h => h) rfl rfl (fun w => ?_) ?_
      rotate_left
      · (go_simp; try with_reducible rfl)
      try simp only [Act.put, List.setIfInBounds_toArray, List.set_cons_zero, List.set_cons_succ]
      refine lt_val (v := (.bool true)) 1 (some 26) rfl (by kernel_rfl) (by kernel_rfl) (by kernel_rfl) (fun _ _ _ h => h) rfl rfl (fun w => ?_) ?_
      · (go_simp; try with_reducible rfl)
      try simp only [Act.put, List.setIfInBounds_toArray, List.set_cons_zero, List.set_cons_succ]
      refine lt_read (v := (.agg (msC m))) 2 (some 27) rfl (by kernel_rfl) (by kernel_rfl) (by kernel_rfl) (by kernel_rfl) (fun _ _ _ h => h) rfl rfl (fun w hSw => ?_) hHeld ?_
      · exact exec_load_m w 35 _ rfl mb 0 rfl (msL m) _ (ms_rg hSw 0 _ (fun j _ => by rw [Nat.zero_add])) Tryd.underlying35 rfl (by rw [msL_len]; exact msInfoW)
      try simp only [Act.put, List.setIfInBounds_toArray, List.set_cons_zero, List.set_cons_succ]
      refine lt_one 3 rfl (by kernel_rfl) rfl (fun K hK => ?_)
      go_simp
      refine (HCK.out z C3).mono ?_
      rintro e w4 ⟨s', a', y', rfl, hcr, k4⟩
      go_wp2_with fail
      refine hK.out _ _ (fun _ h => h.chg k4 (by simp)) ?_
      replace hHeld := hHeld.chg k4 (by simp)
      have C4 := C3.trans1 k4
      clear C3 k4
      clear hK K
      try simp only [Act.put, List.setIfInBounds_toArray, List.set_cons_zero, List.set_cons_succ]
      refine lt_one 4 rfl (by kernel_rfl) rfl (fun K hK => ?_)
      go_simp
      obtain rfl := hcr.eq HGN.out
      refine (None_0 a' y' w4).mono ?_
      rintro e w5 ⟨rfl, k5⟩
      go_wp2_with fail
      refine hK.out _ _ (fun _ h => h.chg k5 (by simp)) ?_
      replace hHeld := hHeld.chg k5 (by simp)
      have C5 := C4.trans1 k5
      clear C4 k5
      clear hK K
      try simp only [Act.put, List.setIfInBounds_toArray, List.set_cons_zero, List.set_cons_succ]
      refine lt_val (v := (.bool true)) 5 (some 30) rfl (by kernel_rfl) (by kernel_rfl) (by kernel_rfl) (fun _ _ _ h => h) rfl rfl (fun w => ?_) ?_
      · (go_simp; try with_reducible rfl)
      try simp only [Act.put, List.setIfInBounds_toArray, List.set_cons_zero, List.set_cons_succ]
      refine lt_val (v := ?_) 6 (some 6) rfl (by kernel_rfl) (by kernel_rfl) (by kernel_rfl) (fun _ _ _ h => h) rfl rfl (fun w => ?_) ?_
      rotate_left
      · (go_simp; try with_reducible rfl)
      try simp only [Act.put, List.setIfInBounds_toArray, List.set_cons_zero, List.set_cons_succ]
      refine lt_done (by kernel_rfl) ?_ _
      go_wp2_with fail
      go_ret
      exact ⟨rfl, C5⟩
    · have hn := enN_le2 m N d M hg
      have hk := hg.1
      unfold okKind at hk
      obtain ⟨n, hnn⟩ : ∃ n, enN m N M = n := ⟨_, rfl⟩
      obtain ⟨f, hff⟩ : ∃ f, enF m N d h b M ft = f := ⟨_, rfl⟩
      obtain ⟨k, hkk⟩ : ∃ k, m.kind.toNat = k := ⟨_, rfl⟩
      have hk2 : 1 ≤ k ∧ k ≤ 6 := by omega
      rw [hnn] at hO hn
      rw [hff, hkk, show 4 + 2 + 4 + n + 4 = 14 + n by omega] at hO
      have hsz : w.heap.size ≤ w2.heap.size := K2.size
      have hFB := hO.2
      obtain ⟨g, c, C, rfl, hgb, hc, hc2, BO, LO⟩ := hO.loW (by omega)
      obtain ⟨j, hj⟩ : ∃ j : Nat, at' % 4 = (j : Int) := Int.eq_ofNat_of_zero_le (Int.emod_nonneg _ (by omega))
      have hj4 : j < 4 := by omega
      have ea : bits .and .i64 at' 3 = (j : Int) := by rw [i64_and3, hj]
      obtain ⟨i, hi⟩ : ∃ i, 10 + n + j = i := ⟨_, rfl⟩
      obtain ⟨Z, hZ⟩ : ∃ Z, 14 + n = Z := ⟨_, rfl⟩
      obtain ⟨Y, hY⟩ : ∃ Y, 10 + n = Y := ⟨_, rfl⟩
      have e1 : IntKind.i64.wrap ((Z : Int) - 4) = (Y : Int) := by rw [IntKind.wrap_i64]; omega
      have e1b : (Z : Int) - 4 = (Y : Int) := by omega
      have e1c : IntKind.i64.wrap (Y : Int) = (Y : Int) := by rw [IntKind.wrap_i64]; omega
      have e2 : IntKind.i64.wrap ((Y : Int) + (j : Int)) = (i : Int) := by rw [IntKind.wrap_i64]; omega
      have e2b : (Y : Int) + (j : Int) = (i : Int) := by omega
      have e2c : IntKind.i64.wrap (i : Int) = (i : Int) := by rw [IntKind.wrap_i64]; omega
      have hiI : (i : Int) < (Z : Int) := by omega
      have hi0 : (0 : Int) ≤ (i : Int) := by omega
      have cx := (BO.cell i).trans (LO i (by omega))
      have fx := BO.frozen i
      obtain ⟨y, hy⟩ : ∃ y, frB k n f i = y := ⟨_, rfl⟩
      obtain ⟨x, hx⟩ : ∃ x, y ^^^ by' = x := ⟨_, rfl⟩
      have hyb : y < 256 := by rw [← hy]; exact hFB i (by omega)
      have hxb : x < 256 := by rw [← hx]; exact Nat.xor_lt_two_pow (n := 8) hyb HB.out
      have ex : bits .xor .u8 (y : Int) (by' : Int) = (x : Int) := by rw [u8_xor_nat _ _ hyb HB.out, hx]
      have hxy : x ≠ frB k n f i := fun q => hb0 (by
        rw [hy, ← hx] at q
        have := congrArg (y ^^^ ·) q
        simpa [← Nat.xor_assoc] using this)
      rw [hy] at cx
      have b2 := BO.setCell i (.int .u8 ((x : Nat) : Int))
      have hgm : ¬ mb = g := fun e => by have := BM2.lt; omega
      have m2 := BM3.setOther hgm i (.int .u8 ((x : Nat) : Int))
      have K4 := K3.setNew (by omega : w.heap.size ≤ g) i (.int .u8 ((x : Nat) : Int))
      have hB2 := (LO.set i x).bs b2 (fun q hq => by unfold tuF; split; exact hxb; exact hFB q hq)
      have HBS : Hid (Bs (w3.setCell ⟨g, i, none⟩ (.int .u8 ((x : Nat) : Int))) g 0 (14 + n) (tuF (frB k n f) i x)) := hB2
      have HDC : Hid (∀ W, Chg w W [] → Bs W g 0 (14 + n) (tuF (frB k n f) i x) → Calls Tryd.prog 8 #[.slice (some ⟨g, 0, none⟩) (14 + n) c] W fun e w' => ∃ fv, e = .returned (.tuple #[.agg (msC (ms0 0)), fv]) ∧ Ft w' W.heap.size fv sSum ((10 + n : Nat) : Int) ((103 : Nat) : Int) ∧ Chg W w' []) :=
        fun W k' B => Decode_tu g 0 c k n f hk2 hn i x (by omega) (by omega) hxy hc hc2 W (HG.out.chg k' (by simp) (by simp)) B
      rw [hZ] at HBS HDC ⊢
      rw [hY] at HDC
      have HN : Hid (Y ≤ 1065199) := by show Y ≤ 1065199; omega
      have HMB : Hid (w.heap.size ≤ mb) := hmb
      have hb1 : ¬ ((by' : Nat) : Int) = 0 := by omega
      clear hg hO hFB BM2 BM3 K2 K3 k3 hmb hk hk2 hn hy hx hyb hxb hxy hB2 b2 BO LO hgm hgb hc hc2 hj hi hnn hff hkk hsz hj4 hb0 hZ hY
      go_wp2_with fail
      refine (HDC.out _ K4 HBS.out).mono ?_
      rintro e w5 ⟨fv, rfl, ⟨gf, rfl, hgf, BF⟩, k5⟩
      have M5 := m2.chg k5 (by simp)
      have K5 := K4.trans1 k5
      clear m2 K4 k5
      go_wp2_with (first
        | (refine store_w BY rfl 35 _ _ (msC (ms0 0)) rfl rfl rfl (by rw [msC_size]; exact msInfoW) rfl (ms_oneC _ rfl rfl) ?_; intro w7 BY7 k7)
        | (with_reducible refine alloc_w rfl 35 rfl (.agg (msC (ms0 0))) zeroMsg (msC (ms0 0)) rfl ?_; intro yb w6 hyb BY k6)
        | (refine wpList_load_row rfl 35 _ rfl yb rfl 35 _ (0, 0) _ BY7 Tryd.underlying35 rfl (by rw [msC_size]; exact msInfoW) ?_)
        | (with_reducible refine wpList_buildW ?_ 35 _ ?_ (msC (ms0 0)) ?_ ?_
           · rfl
           · rfl
           · exact builtM0
           skip))
      have K7 := K5.trans1 (k6.new k7 hyb)
      have BF7 := BF.chg (k6.new k7 hyb) (by simp)
      clear K5 BF k6 k7 BY BY7 hyb M5
      refine (Same0 w7).mono ?_
      rintro e w8 ⟨rfl, k8⟩
      have K8 := K7.trans1 k8
      have BF8 := BF7.chg k8 (by simp)
      clear K7 BF7 k8
      go_wp2_with fail
      refine (fault_any w HP.out gf sSum Y 103 (by decide) sSum_ne (by have := HN.out; omega) (by omega) w8 K8 BF8).mono ?_
      rintro e w9 ⟨rfl, k9⟩
      go_wp2_with fail
      go_ret
      exact ⟨rfl, K8.trans1 k9⟩
end Go.Proofs.YtgfeopingompdabDoor
