/- seal: Sealer.Box. -/
import Derived.Test.YtnopkojpgemldaaSeBx
set_option linter.unusedVariables false
set_option linter.unusedSimpArgs false
set_option linter.unnecessarySimpa false
namespace Go.Proofs.Ytnopkojpgemldaa
open Go.RowKit

/-- A box. -/
def boxB (k : Nat → Nat) (nx n0 : Nat) (f0 : Nat → Nat) (n1 : Nat) (f1 : Nat → Nat) : Nat → Nat := cat (ncB nx) 12 (sealB k (ncB nx) n0 f0 n1 f1)
/-- N bytes F in a new block, no error, and the sealer at y has gone on. -/
def BxQ (w : World) (y : Nat) (k : Nat → Nat) (nx : Nat) (N : Nat) (F : Nat → Nat) (e : Ending) (w' : World) : Prop := ∃ g, e = .returned (.tuple #[.slice (some ⟨g, 0, none⟩) N N, .int .i64 0]) ∧ w.heap.size ≤ g ∧ Blk w' g (yC N F) 5 ∧ Blk w' y (slC k (nx + 1) true) 80 ∧ Chg w w' [y]
set_option maxHeartbeats 8000000 in
set_option maxRecDepth 100000 in
theorem Box_s (y nx : Nat) (k : Nat → Nat) (hk : ∀ i, i < 32 → k i < 256) (hnx : nx < 18446744073709551615) (v0 : Value) (n0 : Nat) (f0 : Nat → Nat) (v1 : Value) (n1 : Nat) (f1 : Nat → Nat) (w : World)
    (hb : Blk w y (slC k nx true) 80) (hv0 : Sz w v0 n0 f0) (hz0 : Oz v0 [y]) (hv1 : Sz w v1 n1 f1) (hz1 : Oz v1 [y]) (hm : n1 + 28 ≤ 140737488355456) :
    Calls Try.prog 21 #[.pointer (some ⟨y, 0, none⟩), v0, v1] w fun e w' => BxQ w y k nx (n1 + 28) (boxB k nx n0 f0 n1 f1) e w' := by
  have HK : Hid ((∀ i, i < 32 → k i < 256) ∧ nx < 18446744073709551615) := ⟨hk, hnx⟩
  have HVV : Hid ((Sz w v0 n0 f0 ∧ Oz v0 [y]) ∧ Sz w v1 n1 f1 ∧ Oz v1 [y]) := ⟨⟨hv0, hz0⟩, hv1, hz1⟩
  have HZ : Hid (∀ t : Nat → Nat, yC (n1 + 28) (lay (lay t 0 12 (ncB nx)) 12 (n1 + 16) (sealB k (ncB nx) n0 f0 n1 f1)) = yC (n1 + 28) (boxB k nx n0 f0 n1 f1)) := fun t => by
    have e := lay_cat t 0 12 (n1 + 16) (ncB nx) (sealB k (ncB nx) n0 f0 n1 f1)
    rw [Nat.zero_add] at e
    rw [e, show 12 + (n1 + 16) = n1 + 28 by omega, lay_all]
    rfl
  obtain ⟨Z, hZ⟩ : ∃ Z, boxB k nx n0 f0 n1 f1 = Z := ⟨_, rfl⟩
  rw [hZ] at HZ ⊢
  obtain ⟨p1, c1, e1, _⟩ := id hv1
  subst e1
  have c33 := (hb.cell 33).trans (slC_33 k nx true)
  have c32 := (hb.cell 32).trans (slC_32 k nx true)
  have f32 := hb.frozen 32
  obtain ⟨nx1, hnx1⟩ : ∃ z, nx + 1 = z := ⟨_, rfl⟩
  have HN1 : Hid (nx + 1 = nx1) := hnx1
  have B2 := (hb.setCell 32 (.int .u64 (nx1 : Nat))).to (slC_set k nx nx1 true)
  have ne : ¬ (nx : Int) = 18446744073709551615 := by omega
  have e1 : IntKind.u64.wrap ((nx : Int) + 1) = (nx1 : Int) := by rw [IntKind.wrap_u64]; omega
  obtain ⟨A, hA⟩ : ∃ A, n1 + 12 = A := ⟨_, rfl⟩
  obtain ⟨M, hM⟩ : ∃ M, n1 + 28 = M := ⟨_, rfl⟩
  obtain ⟨L, hL⟩ : ∃ L, n1 + 16 = L := ⟨_, rfl⟩
  have HM : Hid (n1 + 28 = M ∧ n1 + 16 = L ∧ M ≤ 140737488355456) := ⟨hM, hL, by omega⟩
  have e2 : IntKind.i64.wrap (12 + (n1 : Int)) = (A : Int) := by rw [IntKind.wrap_i64]; omega
  have e3 : IntKind.i64.wrap ((A : Int) + 16) = (M : Int) := by rw [IntKind.wrap_i64]; omega
  have i1 : (12 : Int) ≤ (M : Int) := by omega
  have i2 : ¬ M = 12 := by omega
  have i3 : M - 12 = L := by omega
  have HY : Hid (y < w.heap.size) := hb.lt
  rw [hM] at HZ ⊢
  clear hk hnx hv0 hz0 hv1 hz1 hm hZ hA hM hL hnx1 B2
  go_enter Try.func21, Try.ntmps21
  go_wp2_with fail
  refine (nonceOf_s nx (by have := HK.out.2; unfold U; omega) w).mono ?_
  rintro e w1 ⟨rfl, k1⟩
  have BY1 := hb.chg k1 (by simp)
  clear hb c33 c32 f32
  go_wp2_with (first
    | (refine store_w BN rfl 25 _ _ (yC 12 (ncB nx)) rfl rfl rfl (by rw [yC_size]; exact nonInfo) (by rw [yC_size, yC_size]) (yC_one 12 _) ?_; intro w3 BN3 k3; have HNB : Hid (¬ nb = y ∧ w.heap.size ≤ nb ∧ nb < w3.heap.size) := ⟨by have := BY1.lt; omega, by have := k1.size; omega, BN3.lt⟩; have BY3 := (BY1.chg k2 (by simp)).chg k3 (by have := HNB.out; simp; omega); have c32 := (BY3.cell 32).trans (slC_32 k nx true); have f32 := BY3.frozen 32)
    | (with_reducible refine alloc_w rfl 25 rfl (.agg (yC 12 (fun _ => 0))) zeroNc (yC 12 (fun _ => 0)) rfl ?_; intro nb w2 hnb BN k2)
    | (refine make_w rfl (.tmp 39) (.tmp 39) rfl M rfl rfl HM.out.2.2 ?_; intro g w4 hg BG k4; have KS : Chg w3 (w3.setCell ⟨y, 32, none⟩ (.int .u64 (nx1 : Int))) [y] := (Chg.refl w3 [y]).setIn (k := y) (by simp) 32 _; have BN4 := (BN3.chg KS (by have := HNB.out; simp; omega)).chg k4 (by simp); have BY4 := ((BY3.setCell 32 (.int .u64 (nx1 : Int))).to (slC_set k nx nx1 true)).chg k4 (by simp))
    | (refine copy_y rfl (.tmp 41) (.tmp 42) 26 26 rfl 5 Try.underlying26 u8Inf g 0 M M (some ⟨nb, 0, none⟩) 12 12 rfl rfl #[] M (fun _ => 0) #[] 5 (BG.to (by simp)) 0 12 (ncB nx) (fun _ => rfl) (by show 12 = min 12 M; have := HM.out; omega) (fun _ => ⟨nb, 0, rfl, fun j hj => ?_⟩) (by have := HM.out; omega) ?_
       · (rw [Nat.zero_add, BN4.cell, yC_get _ _ _ hj])
       intro w5 BG5 k5
       replace BG5 := BG5.to (show #[] ++ (yC M (lay (fun _ => 0) 0 12 (ncB nx)) ++ #[]) = yC M (lay (fun _ => 0) 0 12 (ncB nx)) by simp)))
  have hgs : w3.heap.size ≤ g := by have := KS.size; omega
  have HG : Hid (¬ g = nb ∧ ¬ g = y ∧ w.heap.size ≤ g) := ⟨by have := HNB.out; omega, by have := BY3.lt; omega, by have := HNB.out; omega⟩
  have K3 : Chg w w3 [] := (k1.trans1 k2).new k3 HNB.out.2.1
  have K5 : Chg w w5 [y] := ((K3.wide.trans1 KS).trans1 k4.wide).trans k5 (by intro i hi; simp at hi; subst hi; exact Or.inr HG.out.2.2)
  have BN5 := BN4.chg k5 (by have := HG.out; simp; omega)
  have BY5 := BY4.chg k5 (by have := HG.out; simp; omega)
  clear hgs k1 k2 k3 k4 k5 KS K3 BN4 BY4 BN3 BY3 BY1 c32 f32 BN BG hnb hg
  refine lt_begin (fun w' => Blk w' y (slC k nx1 true) 80 ∧ Blk w' nb (yC 12 (ncB nx)) 25) (fun _ => false) (by kernel_rfl) ?_
  have hHeld := And.intro BY5.drew BN5.drew
  replace K5 := K5.drew
  replace BG5 := BG5.drew
  obtain ⟨z, hz⟩ : ∃ z, z = w5.drew := ⟨_, rfl⟩
  rw [← hz] at hHeld K5 BG5 ⊢
  clear hz BY5 BN5
  refine lt_val (v := ?_) 0 (some 44) rfl (by kernel_rfl) (by kernel_rfl) (by kernel_rfl) (fun _ _ _ h => h) rfl rfl (fun w => ?_) ?_
  rotate_left
  · (go_simp; try with_reducible rfl)
  try simp only [Act.put, List.setIfInBounds_toArray, List.set_cons_zero, List.set_cons_succ]
  refine lt_val (v := (.slice (some ⟨g, 12, none⟩) L L)) 1 (some 45) rfl (by kernel_rfl) (by kernel_rfl) (by kernel_rfl) (fun _ _ _ h => h) rfl rfl (fun w => ?_) ?_
  · (go_simp; try with_reducible rfl)
  try simp only [Act.put, List.setIfInBounds_toArray, List.set_cons_zero, List.set_cons_succ]
  refine lt_val (v := ?_) 2 (some 46) rfl (by kernel_rfl) (by kernel_rfl) (by kernel_rfl) (fun _ _ _ h => h) rfl rfl (fun w => ?_) ?_
  rotate_left
  · (go_simp; try with_reducible rfl)
  try simp only [Act.put, List.setIfInBounds_toArray, List.set_cons_zero, List.set_cons_succ]
  refine lt_val (v := ?_) 3 (some 47) rfl (by kernel_rfl) (by kernel_rfl) (by kernel_rfl) (fun _ _ _ h => h) rfl rfl (fun w => ?_) ?_
  rotate_left
  · (go_simp; try with_reducible rfl)
  try simp only [Act.put, List.setIfInBounds_toArray, List.set_cons_zero, List.set_cons_succ]
  refine lt_val (v := ?_) 4 (some 48) rfl (by kernel_rfl) (by kernel_rfl) (by kernel_rfl) (fun _ _ _ h => h) rfl rfl (fun w => ?_) ?_
  rotate_left
  · (go_simp; try with_reducible rfl)
  try simp only [Act.put, List.setIfInBounds_toArray, List.set_cons_zero, List.set_cons_succ]
  refine lt_read (v := (.agg (yC 32 k))) 5 (some 49) rfl (by kernel_rfl) (by kernel_rfl) (by kernel_rfl) (by kernel_rfl) (fun _ _ _ h => h) rfl rfl (fun w hSw => ?_) hHeld ?_
  · skip; exact (exec_load_m w 23 (.tmp 48) rfl y 0 rfl (yL 32 k) _ (fun j x hj => by obtain ⟨h1, rfl⟩ := yL_some _ _ _ _ hj; rw [Nat.zero_add, hSw.1.cell, slC_lo _ _ _ _ h1]) Try.underlying23 rfl (by rw [yL_len]; exact keyInfo))
  try simp only [Act.put, List.setIfInBounds_toArray, List.set_cons_zero, List.set_cons_succ]
  refine lt_read (v := (.agg (yC 12 (ncB nx)))) 6 (some 50) rfl (by kernel_rfl) (by kernel_rfl) (by kernel_rfl) (by kernel_rfl) (fun _ _ _ h => h) rfl rfl (fun w hSw => ?_) hHeld ?_
  · skip; exact (exec_load_b w 25 (.tmp 8) rfl nb rfl hSw.2 Try.underlying25 rfl (by rw [yC_size]; exact nonInfo))
  try simp only [Act.put, List.setIfInBounds_toArray, List.set_cons_zero, List.set_cons_succ]
  refine lt_val (v := ?_) 7 (some 51) rfl (by kernel_rfl) (by kernel_rfl) (by kernel_rfl) (fun _ _ _ h => h) rfl rfl (fun w => ?_) ?_
  rotate_left
  · (go_simp; try with_reducible rfl)
  try simp only [Act.put, List.setIfInBounds_toArray, List.set_cons_zero, List.set_cons_succ]
  refine lt_val (v := ?_) 8 (some 52) rfl (by kernel_rfl) (by kernel_rfl) (by kernel_rfl) (fun _ _ _ h => h) rfl rfl (fun w => ?_) ?_
  rotate_left
  · (go_simp; try with_reducible rfl)
  try simp only [Act.put, List.setIfInBounds_toArray, List.set_cons_zero, List.set_cons_succ]
  refine lt_one 9 rfl (by kernel_rfl) rfl (fun K hK => ?_)
  go_simp
  have q := sealInto_s k (ncB nx) HK.out.1 (fun i _ => ncB_lt nx i) g 12 M L (lay (fun _ => 0) 0 12 (ncB nx)) 5 v0 n0 f0 (.slice p1 n1 c1) n1 f1 z (HVV.out.1.1.chg K5 HVV.out.1.2) (HVV.out.1.1.new [g] (by have := HG.out; simp; omega)) (HVV.out.2.1.chg K5 HVV.out.2.2) (HVV.out.2.1.new [g] (by have := HG.out; simp; omega)) BG5 (by have := HM.out; omega) (by have := HM.out; omega) (by have := HM.out; omega)
  rw [HM.out.2.1] at q
  refine q.mono ?_
  clear q
  rintro e w6 ⟨rfl, B6, k6⟩
  go_wp2_with fail
  refine hK.out _ _ (fun _ h => ⟨h.1.chg k6 (by have := HG.out; simp; omega), h.2.chg k6 (by have := HG.out; simp; omega)⟩) ?_
  clear hK K
  try simp only [Act.put, List.setIfInBounds_toArray, List.set_cons_zero, List.set_cons_succ]
  refine lt_done (by kernel_rfl) ?_ _
  have BY6 := hHeld.1.chg k6 (by have := HG.out; simp; omega)
  have K6 : Chg w w6 [y] := K5.trans k6 (by intro i hi; simp at hi; subst hi; exact Or.inr HG.out.2.2)
  rw [← HM.out.2.1, HZ.out] at B6
  rw [← HN1.out] at BY6
  clear hHeld K5 BG5 k6
  go_wp2_with fail
  go_ret2
  exact ⟨g, rfl, HG.out.2.2, B6, BY6, K6⟩
end Go.Proofs.Ytnopkojpgemldaa
