/- Joined: W70, W71. -/
import Derived.Test.YtgjclegpnbjlkaaGreatDoorMwV
import Derived.Test.YtgjclegpnbjlkaaGreatDoorMwK
import Derived.Test.YtgjclegpnbjlkaaGreatDoorW38
import Derived.Test.YtgjclegpnbjlkaaGreatDoorMwQ
/- rimeref10.four, pair, Framed: the document's frame. -/
set_option linter.unusedVariables false
set_option linter.unusedSimpArgs false
set_option linter.unnecessarySimpa false
namespace Go.Proofs.YtgjclegpnbjlkaaGreatDoor
open Go.RowKit

theorem Blk.ownW {w : World} {g n : Nat} {f : Nat → Nat} {cs : Array Value} (B : Blk w g cs 5) (hc : cs = yC n f) (hf : ∀ i, i < n → f i < 256) (hn : n ≤ 1000000000) : Own w g (.slice (some ⟨g, 0, none⟩) n n) n f := by
  subst hc
  exact ⟨⟨by rw [yL_len, Nat.mul_one], Or.inr ⟨g, n, yC n f, rfl, Nat.le_refl _, B, Nat.le_refl _, by simp [maxLen]; omega, by rw [yC_size, Nat.mul_one], by
    rw [Nat.mul_one]
    show ((yL n f).toArray.toList).take n = yL n f
    rw [List.take_of_length_le (by rw [yL_len]; exact Nat.le_refl _)]⟩⟩, hf⟩
theorem four_cells (n : Nat) (hn : n < 4294967296) : #[Value.int .u8 ((n : Int) / 16777216), .int .u8 ((n : Int) / 65536 % 256), .int .u8 ((n : Int) / 256 % 256), .int .u8 ((n : Int) % 256)] = yC 4 (b4 n) := by
  have e0 : ((n : Int) / 16777216) = ((b4 n 0 : Nat) : Int) := by show _ = ((n / 16777216 % 256 : Nat) : Int); omega
  have e1 : ((n : Int) / 65536 % 256) = ((b4 n 1 : Nat) : Int) := by show _ = ((n / 65536 % 256 : Nat) : Int); omega
  have e2 : ((n : Int) / 256 % 256) = ((b4 n 2 : Nat) : Int) := by show _ = ((n / 256 % 256 : Nat) : Int); omega
  have e3 : ((n : Int) % 256) = ((b4 n 3 : Nat) : Int) := by show _ = ((n % 256 : Nat) : Int); omega
  rw [e0, e1, e2, e3]; rfl
set_option maxHeartbeats 4000000 in
set_option maxRecDepth 100000 in
theorem four_r (n : Nat) (hn : n < 4294967296) (w : World) : Calls Tryz.prog 37 #[.int .i64 (n : Int)] w fun e w' => ∃ v, e = .returned v ∧ Own w' w.heap.size v 4 (b4 n) ∧ Chg w w' [] := by
  have HC := four_cells n hn
  have h1 : (n : Int) / 16777216 % 256 = (n : Int) / 16777216 := by omega
  go_enter Tryz.func37, Tryz.ntmps37
  go_wp2_with fail
  go_ret
  exact ⟨_, rfl, Blk.ownW (Blk.new _ _ _) rfl (fun i _ => b4_lt n i) (by omega), (Chg.refl _ _).alloc _⟩
theorem one_cell (d : Int) (hd : 0 ≤ d ∧ d < 256) : #[Value.int .u8 d] = yC 1 (fun _ => d.toNat) := by
  show #[Value.int .u8 d] = #[Value.int .u8 ((d.toNat : Nat) : Int)]
  rw [Int.toNat_of_nonneg hd.1]
theorem Own.chgs {w w1 w2 : World} {base : Nat} {v : Value} {n : Nat} {f : Nat → Nat} (h : Own w1 base v n f) (k : Chg w w1 []) (q : Chg w1 w2 (ob v)) (hb : w.heap.size ≤ base) : Chg w w2 [] :=
  k.trans q fun i hi => Or.inr (by have := (h.ob_ge i hi).1; omega)
set_option maxHeartbeats 4000000 in
set_option maxRecDepth 100000 in
theorem pair_r (d : Int) (h b : Nat → Nat) (hd : 0 ≤ d ∧ d < 256) (hh : ∀ i, i < 32 → h i < 256) (hbb : ∀ i, i < 32 → b i < 256) (w : World) :
    Calls Tryz.prog 36 #[.agg (cmC d h b)] w fun e w' => ∃ v, e = .returned v ∧ Own w' w.heap.size v 65 (cmB d.toNat h b) ∧ Chg w w' [] := by
  have HH : Hid ((∀ i, i < 32 → h i < 256) ∧ ∀ i, i < 32 → b i < 256) := ⟨hh, hbb⟩
  have ed : IntKind.u8.wrap d = d := by rw [u8_conv]; omega
  have HD : Hid (0 ≤ d ∧ d < 256) := hd
  have HT : Hid (¬ (27 : TypeId) = 5) := by show ¬ (27 : TypeId) = 5; decide
  clear hh hbb hd
  go_enter Tryz.func36, Tryz.ntmps36
  go_wp2_with (first
    | (refine box_w rfl 27 _ rfl (cmC d h b) rfl ?_; intro g w1 hg B k1; have c0 := cm_id B; have HS1 : Hid (w.heap.size ≤ w1.heap.size) := k1.size
       have O1 : Own (w1.alloc (.cells #[.int .u8 d] 5)) w1.heap.size (.slice (some ⟨w1.heap.size, 0, none⟩) 1 1) 1 (fun _ => d.toNat) := Blk.ownW (Blk.new _ _ _) (one_cell d HD.out) (fun i _ => by have := HD.out; show d.toNat < 256; omega) (by omega)
       have B1 := B.alloc (.cells #[.int .u8 d] 5); have S1 := (cm_h B1 HH.out.1).sl 32 (by omega) (by omega); have K1 : Chg w (w1.alloc (.cells #[.int .u8 d] 5)) [] := k1.alloc _)
    | (with_reducible refine append_y ?_ (.tmp 8) (.tmp 10) ?_ w1.heap.size (.slice (some ⟨w1.heap.size, 0, none⟩) 1 1) _ 1 32 (fun _ => d.toNat) h ?_ ?_ O1 S1 ?_ ?_ ?_
       · rfl
       · rfl
       · rfl
       · rfl
       · omega
       · simp
       intro v2 w2 O2 q2; have B2 := B1.chg q2 (O1.nt B1 HT.out); have S2 := (cm_b B2 HH.out.2).sl 32 (by omega) (by omega); have K2 := O1.chgs K1 q2 HS1.out; have s2 := q2.size)
    | (with_reducible refine append_y ?_ (.tmp 12) (.tmp 14) ?_ w1.heap.size v2 _ (1 + 32) 32 _ b ?_ ?_ O2 S2 ?_ ?_ ?_
       · rfl
       · rfl
       · rfl
       · rfl
       · omega
       · simp at s2; omega
       intro v3 w3 O3 q3))
  go_ret
  refine ⟨v3, rfl, (O3.base HS1.out).cg (fun i hi => ?_), O2.chgs K2 q3 HS1.out⟩
  unfold cat cmB
  by_cases a1 : i < 1
  · rw [if_pos (by omega), if_pos a1, if_pos (by omega)]
  · by_cases a2 : i < 33
    · rw [if_pos (by omega), if_neg a1, if_neg (by omega), if_pos a2]
    · rw [if_neg (by omega), if_neg (by omega), if_neg a2]
end Go.Proofs.YtgjclegpnbjlkaaGreatDoor

/- rimeref10.Framed: the document's frame, given its sum. -/
namespace Go.Proofs.YtgjclegpnbjlkaaGreatDoor
open Go.RowKit

theorem zeroDg : (Tryz.prog.info? 143).bind (·.zero) = some (.agg (yC 64 (fun _ => 0))) := by kernel_rfl
theorem dgInfo : (Tryz.prog.info? 143).map (·.size) = some 64 := by kernel_rfl
theorem head_cells (K : Nat) : #[Value.int .u8 82, .int .u8 73, .int .u8 77, .int .u8 69, .int .u8 1, .int .u8 (K : Int)] = yC 6 (cat mgB 4 (vkB K)) := by rfl
theorem sha_lt (f : Nat → Nat) (n i : Nat) : sha f n i < 256 := by
  show dig _ i < 256
  unfold dig
  omega
/-- What the document's Sum does. -/
def SumC (w : World) : Prop := ∀ (W : World) (v : Value) (M : Nat) (u : Nat → Nat), M ≤ 140737488355328 → Chg w W [] → Sl W v M u → Calls Tryz.prog 61 #[v] W fun e w' => e = .returned (.agg (yC 64 (sha u M))) ∧ Chg W w' []
set_option maxHeartbeats 8000000 in
set_option maxRecDepth 100000 in
theorem Framed_r (K n : Nat) (f : Nat → Nat) (v : Value) (hK : K < 256) (hn : n < 4294967296) (w : World) (hS : SumC w) (hB : Sl w v n f) :
    Calls Tryz.prog 20 #[.int .i64 (K : Int), v] w fun e w' => ∃ u, e = .returned u ∧ Own w' w.heap.size u (4 + 2 + 4 + n + 4) (frB K n f) ∧ Chg w w' [] := by
  obtain ⟨p, c, rfl⟩ := slFm hB
  have HS : Hid (SumC w) := hS
  have HF : Hid (∀ W, Calls Tryz.prog 37 #[.int .i64 (n : Int)] W fun e w' => ∃ v, e = .returned v ∧ Own w' W.heap.size v 4 (b4 n) ∧ Chg W w' []) := fun W => four_r n hn W
  have HB : Hid (∀ W, Chg w W [] → Sl W (.slice p n c) n f) := fun W k => hB.chg k (by simp [Off])
  have HN : Hid (n < 4294967296 ∧ K < 256) := ⟨hn, hK⟩
  have ek : IntKind.u8.wrap (K : Int) = (K : Int) := by rw [u8_conv]; omega
  have HC := head_cells K
  clear hS hB hK hn
  go_enter Tryz.func20, Tryz.ntmps20
  go_wp2_with fail
  have k1 : Chg w (w.alloc (.cells (yC 6 (cat mgB 4 (vkB K))) 5)) [] := (Chg.refl _ _).alloc _
  have O1 : Own (w.alloc (.cells (yC 6 (cat mgB 4 (vkB K))) 5)) w.heap.size (.slice (some ⟨w.heap.size, 0, none⟩) 6 6) 6 (cat mgB 4 (vkB K)) := Blk.ownW (Blk.new _ _ _) rfl (fun i hi => by
    have hc : i = 0 ∨ i = 1 ∨ i = 2 ∨ i = 3 ∨ i = 4 ∨ i = 5 := by omega
    have := HN.out.2
    rcases hc with rfl | rfl | rfl | rfl | rfl | rfl
    · show 82 < 256; omega
    · show 73 < 256; omega
    · show 77 < 256; omega
    · show 69 < 256; omega
    · show 1 < 256; omega
    · show K < 256; omega) (by omega)
  obtain ⟨w1, hw1⟩ : ∃ z, z = w.alloc (.cells (yC 6 (cat mgB 4 (vkB K))) 5) := ⟨_, rfl⟩
  rw [← hw1] at k1 O1 ⊢
  clear hw1
  refine (HF.out w1).mono ?_
  rintro e w2 ⟨v2, rfl, O2, k2⟩
  have O1b := O1.far k2 (fun y hy => by simp at hy)
  have K2 := k1.trans1 k2
  have S2 := O2.sl
  clear O1 O2 k1 k2
  go_wp2_with (first
    | (with_reducible refine append_y ?_ (.tmp 10) (.tmp 13) ?_ w.heap.size (.slice (some ⟨w.heap.size, 0, none⟩) 6 6) _ 6 4 (cat mgB 4 (vkB K)) (b4 n) ?_ ?_ O1b S2 ?_ ?_ ?_
       · rfl
       · rfl
       · rfl
       · rfl
       · omega
       · exact K2.size
       intro v3 w3 O3 q3; have K3 := O1b.chgs K2 q3 (Nat.le_refl _); have S3 := HB.out w3 K3)
    | (with_reducible refine append_y ?_ (.tmp 15) (.tmp 16) ?_ w.heap.size v3 _ (6 + 4) n _ f ?_ ?_ O3 S3 ?_ ?_ ?_
       · rfl
       · rfl
       · rfl
       · rfl
       · have := HN.out; omega
       · exact K3.size
       intro v4 w4 O4 q4; have K4 := O3.chgs K3 q4 (Nat.le_refl _)))
  have e4 : cat (cat (cat mgB 4 (vkB K)) 6 (b4 n)) (6 + 4) f = fwB K n f := rfl
  rw [e4] at O4
  have O4' : Own w4 w.heap.size v4 (10 + n) (fwB K n f) := by
    rw [show 10 + n = 6 + 4 + n by omega]; exact O4
  clear O4 O3 O1b S2 S3 K2 K3 q3 q4 e4
  refine (HS.out w4 v4 (10 + n) (fwB K n f) (by have := HN.out; omega) K4 O4'.sl).mono ?_
  rintro e w5 ⟨rfl, k5⟩
  have O5 := O4'.far k5 (fun y hy => by simp at hy)
  have K5 := K4.trans1 k5
  clear O4' K4 k5
  obtain ⟨pv, cv, rfl⟩ := slFm O5.sl
  go_wp2_with (first
    | (refine store_w BD rfl 143 _ _ (yC 64 (sha (fwB K n f) (10 + n))) rfl rfl rfl (by rw [yC_size]; exact dgInfo) (by rw [yC_size, yC_size]) (yC_one 64 _) ?_; intro w7 BD7 k7
       have K7 : Chg w w7 [] := K5.trans1 (k6.new k7 hdb)
       have O7 := O5.far (k6.new k7 hdb) (fun y hy => by simp at hy)
       have S7 : Sl w7 (.slice (some ⟨db, 0, none⟩) 4 64) 4 (sha (fwB K n f) (10 + n)) := Or.inr ⟨db, 0, 64, rfl, by omega, by omega, BD7.lt, fun i _ => sha_lt _ _ i, fun i hi => by rw [BD7.cell, Nat.zero_add]; exact yC_get 64 _ i (by omega)⟩)
    | (with_reducible refine alloc_w rfl 143 rfl (.agg (yC 64 (fun _ => 0))) zeroDg (yC 64 (fun _ => 0)) rfl ?_; intro db w6 hdb BD k6)
    | (with_reducible refine append_y ?_ (.tmp 20) (.tmp 21) ?_ w.heap.size (.slice pv (10 + n) cv) _ (10 + n) 4 _ (sha (fwB K n f) (10 + n)) ?_ ?_ O7 S7 ?_ ?_ ?_
       · rfl
       · rfl
       · rfl
       · rfl
       · have := HN.out; omega
       · exact K7.size
       intro v8 w8 O8 q8))
  go_ret
  refine ⟨v8, rfl, ?_, O7.chgs K7 q8 (Nat.le_refl _)⟩
  rw [show 4 + 2 + 4 + n + 4 = 10 + n + 4 by omega, show frB K n f = cat (fwB K n f) (10 + n) (sha (fwB K n f) (10 + n)) by unfold frB; rw [show 4 + 2 + 4 + n = 10 + n by omega]]
  exact O8
end Go.Proofs.YtgjclegpnbjlkaaGreatDoor
