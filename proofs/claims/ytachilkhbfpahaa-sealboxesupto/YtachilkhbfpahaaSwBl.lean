/- SealBlocks: the walk. -/
import Derived.Test.YtachilkhbfpahaaSrTg
import Derived.Test.YtachilkhbfpahaaGvZ
import Derived.Test.YtachilkhbfpahaaSeWk
import Derived.Test.YtachilkhbfpahaaSeSm
set_option linter.unusedVariables false
set_option linter.unusedSimpArgs false
set_option linter.unnecessarySimpa false
namespace Go.Proofs.Ytachilkhbfpahaa
open Go.RowKit

@[go_sem] theorem eq_b64 (f g : Nat → Nat) (w : World) : (Op.equalIn 10000 51 (.agg (yC 64 f)) (.agg (yC 64 g))).run Try.prog w = .ok (eqn 64 f g) w := by
  obtain ⟨i, hi⟩ := u8InfoZ
  rw [show (10000 : Nat) = 9998 + 1 + 1 from rfl, run_equalIn_array w 9999 _ _ Try.underlying51 hi, u8CellsZ]
  exact eqItems_ints w 9998 Try.underlying5 _ _ (fun i => ((f i : Nat) : Int)) (fun i => ((g i : Nat) : Int)) (List.range 64) (fun j hj => ⟨yC_get 64 f j (by simpa using hj), yC_get 64 g j (by simpa using hj)⟩)
/-- Stream's answer, both ways. -/
def stN (ct n : Nat) : Nat := if ct + (n + 63) / 64 ≤ 4294967296 then n else 0
def stE (ct n : Nat) : Int := if ct + (n + 63) / 64 ≤ 4294967296 then 0 else 122
def StA (w : World) (N : Nat) (E : Int) (X : Nat → Nat) (e : Ending) (w' : World) : Prop := ∃ sv, e = .returned (.tuple #[sv, .int .i64 E]) ∧ Sz w' sv N X ∧ Chg w w' []
theorem Sz.nil0 (w : World) (X : Nat → Nat) : Sz w (.slice none 0 0) 0 X := ⟨none, 0, rfl, by omega, by omega, fun h => by omega⟩
theorem Stream_a (k nn : Nat → Nat) (ct : Nat) (hk : ∀ i, i < 32 → k i < 256) (hn : ∀ i, i < 12 → nn i < 256) (hct : V ct) (v : Value) (n : Nat) (f : Nat → Nat) (w : World) (hv : Sz w v n f) (hm : n ≤ 140737488355325) :
    Calls Try.prog 10 #[.agg (yC 32 k), .int .u32 (ct : Int), .agg (yC 12 nn), v] w fun e w' => StA w (stN ct n) (stE ct n) (xo f (ks k ct nn)) e w' := by
  unfold stN stE
  by_cases h : ct + (n + 63) / 64 ≤ 4294967296
  · rw [if_pos h, if_pos h]
    refine (Stream_ok k nn ct hk hn hct v n f w hv (by omega) h).mono ?_
    rintro e w' ⟨g, rfl, hg, B, k1⟩
    exact ⟨_, rfl, B.szn (xo_lt hv.bd (ks_lt k ct nn)) (by omega), k1⟩
  · rw [if_neg h, if_neg h]
    refine (Stream_end k nn ct hct v n f w hv (by omega)).mono ?_
    rintro e w' ⟨rfl, k1⟩
    exact ⟨_, rfl, Sz.nil0 _ _, k1⟩
theorem Stream_ra (k nn : Nat → Nat) (ct : Nat) (hk : ∀ i, i < 32 → k i < 256) (hn : ∀ i, i < 12 → nn i < 256) (hct : V ct) (v : Value) (n : Nat) (f : Nat → Nat) (w : World) (hv : Sz w v n f) (hm : n ≤ 140737488355325) :
    Calls Try.prog 11 #[.agg (yC 32 k), .int .u32 (ct : Nat), .agg (yC 12 nn), v] w fun e w' => StA w (stN ct n) (stE ct n) (xo f (ks k ct nn)) e w' := by
  unfold stN stE
  by_cases h : ct + (n + 63) / 64 ≤ 4294967296
  · rw [if_pos h, if_pos h]
    refine (Stream_r k nn ct hk hn hct v n f w hv h _ rfl).mono ?_
    rintro e w' ⟨v', rfl, O, k1⟩
    exact ⟨_, rfl, O.sz, k1⟩
  · rw [if_neg h, if_neg h]
    refine (Stream_rend k nn ct hct v n f w hv (by omega) (by omega)).mono ?_
    rintro e w' ⟨rfl, k1⟩
    exact ⟨_, rfl, Sz.nil0 _ _, k1⟩
set_option maxHeartbeats 16000000 in
set_option maxRecDepth 100000 in
theorem blocks_walk (k : Nat → Nat) (hk : ∀ i, i < 32 → k i < 256) (ct : Nat) (hct : ct < 4294967296) (nn : Nat → Nat) (hn : ∀ i, i < 12 → nn i < 256) (v : Value) (n : Nat) (f : Nat → Nat) (w : World) (hv : Sz w v n f) (hm : n ≤ 140737488355325) :
    Calls Try.prog 3 #[.agg (yC 32 k), .int .u32 (ct : Int), .agg (yC 12 nn), v] w fun e w' => e = .returned (.bool true) ∧ Chg w w' [] := by
  have HV : Hid (Sz w v n f ∧ n ≤ 140737488355325) := ⟨hv, hm⟩
  have HC1 : Hid (∀ w' v', Sz w' v' n f → Calls Try.prog 10 #[.agg (yC 32 k), .int .u32 (ct : Int), .agg (yC 12 nn), v'] w' fun e w'' => StA w' (stN ct n) (stE ct n) (xo f (ks k ct nn)) e w'') := fun w' v' h => Stream_a k nn ct hk hn hct v' n f w' h hm
  have HC2 : Hid (∀ w' v', Sz w' v' n f → Calls Try.prog 11 #[.agg (yC 32 k), .int .u32 (ct : Nat), .agg (yC 12 nn), v'] w' fun e w'' => StA w' (stN ct n) (stE ct n) (xo f (ks k ct nn)) e w'') := fun w' v' h => Stream_ra k nn ct hk hn hct v' n f w' h hm
  have HC3 : Hid (∀ w', Calls Try.prog 12 #[.agg (yC 32 k), .int .u32 (ct : Int), .agg (yC 12 nn)] w' fun e w'' => e = .returned (.agg (yC 64 (bkB (st0 k ct nn)))) ∧ Chg w' w'' []) := fun w' => Block_s k ct nn hk hn hct w'
  have HC4 : Hid (∀ w', Calls Try.prog 13 #[.agg (yC 32 k), .int .u32 (ct : Nat), .agg (yC 12 nn)] w' fun e w'' => e = .returned (.agg (yC 64 (bkB (st0 k ct nn)))) ∧ Chg w' w'' []) := fun w' => Block_r k ct nn hk hn hct w'
  obtain ⟨N, hN⟩ : ∃ N, stN ct n = N := ⟨_, rfl⟩
  obtain ⟨E, hE⟩ : ∃ E, stE ct n = E := ⟨_, rfl⟩
  obtain ⟨X, hX⟩ : ∃ X, xo f (ks k ct nn) = X := ⟨_, rfl⟩
  obtain ⟨D, hD⟩ : ∃ D, bkB (st0 k ct nn) = D := ⟨_, rfl⟩
  rw [hN, hE, hX] at HC1 HC2
  rw [hD] at HC3 HC4
  clear hk hn hct hv hm hN hE hX hD
  go_enter Try.func3, Try.ntmps3
  go_wp2_with (first
    | (refine alloc_w rfl 44 rfl (.agg (gvC gNil)) zeroGiven (gvC gNil) rfl ?_; intro gb w3 hgb BG k3)
    | (have _h := BK; refine box_w rfl 26 _ rfl (yC 12 nn) rfl ?_; intro nb w2 hnb BN k2)
    | (refine box_w rfl 23 _ rfl (yC 32 k) rfl ?_; intro kb w1 hkb BK k1))
  have G3 : GS w w3 gb 0 := GS.begin BG (by have := (k1.trans1 k2).size; omega) ((k1.trans1 k2).trans1 k3)
  have BK3 := (BK.chg k2 (by simp)).chg k3 (by simp)
  have BN3 := BN.chg k3 (by simp)
  clear BK BN BG k1 k2 k3 hkb hnb hgb
  refine (G3.bytes (by decide) HV.out.2 (HV.out.1.kept G3.cc)).mono ?_
  rintro e w4 ⟨o4, rfl, ho4, G4, _, S4, Q4⟩
  have BK4 := Q4.blk BK3 (by decide) (by decide)
  have BN4 := Q4.blk BN3 (by decide) (by decide)
  clear BK3 BN3 G3 Q4 ho4
  go_wp2_with (first
    | (with_reducible refine load_b BK4 23 (.tmp 4) Try.underlying23 ?_ ?_ ?_ ?_ ?_ ?_
       · rfl
       · rfl
       · rfl
       · rfl
       · (rw [yC_size]; exact keyInfo))
    | (with_reducible refine load_b BN4 26 (.tmp 6) Try.underlying26 ?_ ?_ ?_ ?_ ?_ ?_
       · rfl
       · rfl
       · rfl
       · rfl
       · (rw [yC_size]; exact nonInfo)))
  refine (HC1.out w4 _ S4).mono ?_
  rintro e w5 ⟨sx, rfl, S5, k5⟩
  have BK5 := BK4.chg k5 (by simp)
  have BN5 := BN4.chg k5 (by simp)
  have G5 := G4.chg k5
  clear BK4 BN4 G4 S4 k5
  go_wp2_with (first
    | (with_reducible refine load_b BK5 23 (.tmp 4) Try.underlying23 ?_ ?_ ?_ ?_ ?_ ?_
       · rfl
       · rfl
       · rfl
       · rfl
       · (rw [yC_size]; exact keyInfo))
    | (with_reducible refine load_b BN5 26 (.tmp 6) Try.underlying26 ?_ ?_ ?_ ?_ ?_ ?_
       · rfl
       · rfl
       · rfl
       · rfl
       · (rw [yC_size]; exact nonInfo)))
  refine (HC2.out w5 v (HV.out.1.kept G5.cc)).mono ?_
  rintro e w6 ⟨sy, rfl, S6y, k6⟩
  have S6 := S5.kept k6
  have BK6 := BK5.chg k6 (by simp)
  have BN6 := BN5.chg k6 (by simp)
  have G6 := G5.chg k6
  clear BK5 BN5 G5 S5 k6
  go_wp2_with fail
  refine lt_begin (fun w' => Blk w' kb (yC 32 k) 23 ∧ Blk w' nb (yC 12 nn) 26) (fun _ => false) (by kernel_rfl) ?_
  have hHeld := And.intro BK6.drew BN6.drew
  have GG : GS w w6.drew gb 1 := G6.chg ((Chg.refl w6 []).drew)
  have SX : Sz w6.drew sx N X := S6.kept ((Chg.refl w6 []).drew)
  have SY : Sz w6.drew sy N X := S6y.kept ((Chg.refl w6 []).drew)
  obtain ⟨z, hz⟩ : ∃ z, z = w6.drew := ⟨_, rfl⟩
  rw [← hz] at hHeld GG SX SY ⊢
  clear hz BK6 BN6 G6 S6 S6y
  refine lt_read (v := (.agg (yC 32 k))) 0 (some 33) rfl (by kernel_rfl) (by kernel_rfl) (by kernel_rfl) (by kernel_rfl) (fun _ _ _ h => h) rfl rfl (fun w hSw => ?_) hHeld ?_
  · skip; exact (exec_load_b w 23 (.tmp 4) rfl kb rfl hSw.1 Try.underlying23 rfl (by rw [yC_size]; exact keyInfo))
  try simp only [Act.put, List.setIfInBounds_toArray, List.set_cons_zero, List.set_cons_succ]
  refine lt_val (v := ?_) 1 (some 34) rfl (by kernel_rfl) (by kernel_rfl) (by kernel_rfl) (fun _ _ _ h => h) rfl rfl (fun w => ?_) ?_
  rotate_left
  · (go_simp; try with_reducible rfl)
  try simp only [Act.put, List.setIfInBounds_toArray, List.set_cons_zero, List.set_cons_succ]
  refine lt_read (v := (.agg (yC 12 nn))) 2 (some 35) rfl (by kernel_rfl) (by kernel_rfl) (by kernel_rfl) (by kernel_rfl) (fun _ _ _ h => h) rfl rfl (fun w hSw => ?_) hHeld ?_
  · skip; exact (exec_load_b w 26 (.tmp 6) rfl nb rfl hSw.2 Try.underlying26 rfl (by rw [yC_size]; exact nonInfo))
  try simp only [Act.put, List.setIfInBounds_toArray, List.set_cons_zero, List.set_cons_succ]
  refine lt_read (v := (.agg (yC 32 k))) 4 (some 37) rfl (by kernel_rfl) (by kernel_rfl) (by kernel_rfl) (by kernel_rfl) (fun _ _ _ h => h) rfl rfl (fun w hSw => ?_) hHeld ?_
  · skip; exact (exec_load_b w 23 (.tmp 4) rfl kb rfl hSw.1 Try.underlying23 rfl (by rw [yC_size]; exact keyInfo))
  try simp only [Act.put, List.setIfInBounds_toArray, List.set_cons_zero, List.set_cons_succ]
  refine lt_val (v := ?_) 5 (some 38) rfl (by kernel_rfl) (by kernel_rfl) (by kernel_rfl) (fun _ _ _ h => h) rfl rfl (fun w => ?_) ?_
  rotate_left
  · (go_simp; try with_reducible rfl)
  try simp only [Act.put, List.setIfInBounds_toArray, List.set_cons_zero, List.set_cons_succ]
  refine lt_read (v := (.agg (yC 12 nn))) 6 (some 39) rfl (by kernel_rfl) (by kernel_rfl) (by kernel_rfl) (by kernel_rfl) (fun _ _ _ h => h) rfl rfl (fun w hSw => ?_) hHeld ?_
  · skip; exact (exec_load_b w 26 (.tmp 6) rfl nb rfl hSw.2 Try.underlying26 rfl (by rw [yC_size]; exact nonInfo))
  try simp only [Act.put, List.setIfInBounds_toArray, List.set_cons_zero, List.set_cons_succ]
  refine lt_one 3 rfl (by kernel_rfl) rfl (fun K hK => ?_)
  go_simp
  refine (HC3.out z).mono ?_
  rintro e w7 ⟨rfl, k7⟩
  go_wp2_with fail
  refine hK.out _ _ (fun _ h => ⟨h.1.chg k7 (by simp), h.2.chg k7 (by simp)⟩) ?_
  replace hHeld := And.intro (hHeld.1.chg k7 (by simp)) (hHeld.2.chg k7 (by simp))
  replace GG := GG.chg k7
  replace SX := SX.kept k7
  replace SY := SY.kept k7
  clear k7
  clear hK K
  try simp only [Act.put, List.setIfInBounds_toArray, List.set_cons_zero, List.set_cons_succ]
  refine lt_one 7 rfl (by kernel_rfl) rfl (fun K hK => ?_)
  go_simp
  refine (HC4.out w7).mono ?_
  rintro e w8 ⟨rfl, k8⟩
  go_wp2_with fail
  refine hK.out _ _ (fun _ h => ⟨h.1.chg k8 (by simp), h.2.chg k8 (by simp)⟩) ?_
  replace hHeld := And.intro (hHeld.1.chg k8 (by simp)) (hHeld.2.chg k8 (by simp))
  replace GG := GG.chg k8
  replace SX := SX.kept k8
  replace SY := SY.kept k8
  clear k8
  clear hK K
  try simp only [Act.put, List.setIfInBounds_toArray, List.set_cons_zero, List.set_cons_succ]
  refine lt_val (v := (.bool true)) 8 (some 41) rfl (by kernel_rfl) (by kernel_rfl) (by kernel_rfl) (fun _ _ _ h => h) rfl rfl (fun w => ?_) ?_
  · (go_simp; rw [(eqn_iff 64 _ _).2 (fun _ _ => rfl)])
  try simp only [Act.put, List.setIfInBounds_toArray, List.set_cons_zero, List.set_cons_succ]
  refine lt_val (v := ?_) 9 (some 42) rfl (by kernel_rfl) (by kernel_rfl) (by kernel_rfl) (fun _ _ _ h => h) rfl rfl (fun w => ?_) ?_
  rotate_left
  · (go_simp; try with_reducible rfl)
  try simp only [Act.put, List.setIfInBounds_toArray, List.set_cons_zero, List.set_cons_succ]
  refine lt_val (v := ?_) 10 (some 43) rfl (by kernel_rfl) (by kernel_rfl) (by kernel_rfl) (fun _ _ _ h => h) rfl rfl (fun w => ?_) ?_
  rotate_left
  · (go_simp; try with_reducible rfl)
  try simp only [Act.put, List.setIfInBounds_toArray, List.set_cons_zero, List.set_cons_succ]
  refine lt_val (v := ?_) 11 (some 44) rfl (by kernel_rfl) (by kernel_rfl) (by kernel_rfl) (fun _ _ _ h => h) rfl rfl (fun w => ?_) ?_
  rotate_left
  · (go_simp; try with_reducible rfl)
  try simp only [Act.put, List.setIfInBounds_toArray, List.set_cons_zero, List.set_cons_succ]
  refine lt_one 12 rfl (by kernel_rfl) rfl (fun K hK => ?_)
  go_simp
  refine (SameBytes_z sx N X sy N X w8 SX SY).mono ?_
  rw [sameB_self (fun _ _ => rfl)]
  rintro e w9 ⟨rfl, k9⟩
  go_wp2_with fail
  refine hK.out _ _ (fun _ h => ⟨h.1.chg k9 (by simp), h.2.chg k9 (by simp)⟩) ?_
  replace GG := GG.chg k9
  clear SX SY k9
  clear hK K
  try simp only [Act.put, List.setIfInBounds_toArray, List.set_cons_zero, List.set_cons_succ]
  refine lt_val (v := ?_) 13 (some 46) rfl (by kernel_rfl) (by kernel_rfl) (by kernel_rfl) (fun _ _ _ h => h) rfl rfl (fun w => ?_) ?_
  rotate_left
  · (go_simp; try with_reducible rfl)
  try simp only [Act.put, List.setIfInBounds_toArray, List.set_cons_zero, List.set_cons_succ]
  refine lt_val (v := ?_) 14 (some 47) rfl (by kernel_rfl) (by kernel_rfl) (by kernel_rfl) (fun _ _ _ h => h) rfl rfl (fun w => ?_) ?_
  rotate_left
  · (go_simp; try with_reducible rfl)
  try simp only [Act.put, List.setIfInBounds_toArray, List.set_cons_zero, List.set_cons_succ]
  refine lt_val (v := ?_) 15 (some 48) rfl (by kernel_rfl) (by kernel_rfl) (by kernel_rfl) (fun _ _ _ h => h) rfl rfl (fun w => ?_) ?_
  rotate_left
  · (go_simp; try with_reducible rfl)
  try simp only [Act.put, List.setIfInBounds_toArray, List.set_cons_zero, List.set_cons_succ]
  refine lt_val (v := ?_) 17 (some 50) rfl (by kernel_rfl) (by kernel_rfl) (by kernel_rfl) (fun _ _ _ h => h) rfl rfl (fun w => ?_) ?_
  rotate_left
  · (go_simp; try with_reducible rfl)
  try simp only [Act.put, List.setIfInBounds_toArray, List.set_cons_zero, List.set_cons_succ]
  refine lt_one 16 rfl (by kernel_rfl) rfl (fun K hK => ?_)
  go_simp
  refine (num_s E w9).mono ?_
  rintro e wA ⟨rfl, rfl⟩
  go_wp2_with fail
  refine hK.out _ _ (fun _ h => h) ?_
  clear hK K
  try simp only [Act.put, List.setIfInBounds_toArray, List.set_cons_zero, List.set_cons_succ]
  refine lt_val (v := (.bool true)) 18 (some 51) rfl (by kernel_rfl) (by kernel_rfl) (by kernel_rfl) (fun _ _ _ h => h) rfl rfl (fun w => ?_) ?_
  · (go_simp; try with_reducible rfl)
  try simp only [Act.put, List.setIfInBounds_toArray, List.set_cons_zero, List.set_cons_succ]
  refine lt_val (v := ?_) 19 (some 52) rfl (by kernel_rfl) (by kernel_rfl) (by kernel_rfl) (fun _ _ _ h => h) rfl rfl (fun w => ?_) ?_
  rotate_left
  · (go_simp; try with_reducible rfl)
  try simp only [Act.put, List.setIfInBounds_toArray, List.set_cons_zero, List.set_cons_succ]
  refine lt_val (v := ?_) 20 (some 53) rfl (by kernel_rfl) (by kernel_rfl) (by kernel_rfl) (fun _ _ _ h => h) rfl rfl (fun w => ?_) ?_
  rotate_left
  · (go_simp; try with_reducible rfl)
  try simp only [Act.put, List.setIfInBounds_toArray, List.set_cons_zero, List.set_cons_succ]
  refine lt_one 21 rfl (by kernel_rfl) rfl (fun K hK => ?_)
  go_simp
  refine (GG.intact (by decide)).mono ?_
  rintro e wB ⟨rfl, kB⟩
  go_wp2_with fail
  refine hK.out _ _ (fun _ h => ⟨h.1.chg kB (by simp), h.2.chg kB (by simp)⟩) ?_
  have KB := GG.cc.trans1 kB
  clear GG kB
  clear hK K
  try simp only [Act.put, List.setIfInBounds_toArray, List.set_cons_zero, List.set_cons_succ]
  refine lt_val (v := ?_) 22 (some 55) rfl (by kernel_rfl) (by kernel_rfl) (by kernel_rfl) (fun _ _ _ h => h) rfl rfl (fun w => ?_) ?_
  rotate_left
  · (go_simp; try with_reducible rfl)
  try simp only [Act.put, List.setIfInBounds_toArray, List.set_cons_zero, List.set_cons_succ]
  refine lt_val (v := ?_) 23 (some 56) rfl (by kernel_rfl) (by kernel_rfl) (by kernel_rfl) (fun _ _ _ h => h) rfl rfl (fun w => ?_) ?_
  rotate_left
  · (go_simp; try with_reducible rfl)
  try simp only [Act.put, List.setIfInBounds_toArray, List.set_cons_zero, List.set_cons_succ]
  refine lt_one 24 rfl (by kernel_rfl) rfl (fun K hK => ?_)
  go_simp
  refine (works_s wB).mono ?_
  rintro e wC ⟨rfl, kC⟩
  go_wp2_with fail
  refine hK.out _ _ (fun _ h => ⟨h.1.chg kC (by simp), h.2.chg kC (by simp)⟩) ?_
  clear hK K
  try simp only [Act.put, List.setIfInBounds_toArray, List.set_cons_zero, List.set_cons_succ]
  refine lt_val (v := ?_) 25 (some 58) rfl (by kernel_rfl) (by kernel_rfl) (by kernel_rfl) (fun _ _ _ h => h) rfl rfl (fun w => ?_) ?_
  rotate_left
  · (go_simp; try with_reducible rfl)
  try simp only [Act.put, List.setIfInBounds_toArray, List.set_cons_zero, List.set_cons_succ]
  refine lt_val (v := ?_) 26 (some 8) rfl (by kernel_rfl) (by kernel_rfl) (by kernel_rfl) (fun _ _ _ h => h) rfl rfl (fun w => ?_) ?_
  rotate_left
  · (go_simp; try with_reducible rfl)
  try simp only [Act.put, List.setIfInBounds_toArray, List.set_cons_zero, List.set_cons_succ]
  refine lt_done (by kernel_rfl) ?_ _
  go_wp2_with fail
  go_ret
  exact ⟨rfl, KB.trans1 kC⟩
end Go.Proofs.Ytachilkhbfpahaa
