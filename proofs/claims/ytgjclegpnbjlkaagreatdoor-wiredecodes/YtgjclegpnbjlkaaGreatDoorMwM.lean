/- Joined: W70, W71, WFr. -/
import Derived.Test.YtgjclegpnbjlkaaGreatDoorMwV
import Derived.Test.YtgjclegpnbjlkaaGreatDoorMwK
import Derived.Test.YtgjclegpnbjlkaaGreatDoorMxG
import Derived.Test.YtgjclegpnbjlkaaGreatDoorRSd
set_option linter.all false
namespace Go.Proofs.YtgjclegpnbjlkaaGreatDoor
open Go.RowKit
theorem Blk.ownW {w : World} {g n : Nat} {f : Nat → Nat} {cs : Array Value} (B : Blk w g cs 5) (hc : cs = yC n f) (hf : ∀ i, i < n → f i < 256) (hn : n ≤ 1000000000) : Own w g (.slice (some ⟨g, 0, none⟩) n n) n f := by
 subst hc
 exact ⟨⟨by rw [yL_len, Nat.mul_one], Or.inr ⟨g, n, yC n f, rfl, Nat.le_refl _, B, Nat.le_refl _, by simp [maxLen]; omega, by rw [yC_size, Nat.mul_one], by
   rw [Nat.mul_one]
   show ((yL n f).toArray.toList).take n = yL n f
   rw [List.take_of_length_le (by rw [yL_len]; exact Nat.le_refl _)]⟩⟩, hf⟩
theorem Own.chgs {w w1 w2 : World} {base : Nat} {v : Value} {n : Nat} {f : Nat → Nat} (h : Own w1 base v n f) (k : Chg w w1 []) (q : Chg w1 w2 (ob v)) (hb : w.heap.size ≤ base) : Chg w w2 [] :=
 k.trans q fun i hi => Or.inr (by have := (h.ob_ge i hi).1; omega)
end Go.Proofs.YtgjclegpnbjlkaaGreatDoor

set_option linter.all false
namespace Go.Proofs.YtgjclegpnbjlkaaGreatDoor
open Go.RowKit
theorem zeroDg : (Tryz.prog.info? 143).bind (·.zero) = some (.agg (yC 64 (fun _ => 0))) := by kernel_rfl
theorem dgInfo : (Tryz.prog.info? 143).map (·.size) = some 64 := by kernel_rfl
theorem head_cells (K : Nat) : #[Value.int .u8 82, .int .u8 73, .int .u8 77, .int .u8 69, .int .u8 1, .int .u8 (K : Int)] = yC 6 (cat mgB 4 (vkB K)) := by rfl
theorem sha_lt (f : Nat → Nat) (n i : Nat) : sha f n i < 256 := by
 show dig _ i < 256
 unfold dig
 omega
end Go.Proofs.YtgjclegpnbjlkaaGreatDoor

set_option linter.all false
namespace Go.Proofs.YtgjclegpnbjlkaaGreatDoor
set_option maxHeartbeats 8000000
set_option maxRecDepth 100000
open Go.RowKit
theorem four_cellsA (n : Nat) : #[Value.int .u8 ((n : Int) / 16777216 % 256), .int .u8 ((n : Int) / 65536 % 256), .int .u8 ((n : Int) / 256 % 256), .int .u8 ((n : Int) % 256)] = yC 4 (b4 n) := by
 have e0 : ((n : Int) / 16777216 % 256) = ((b4 n 0 : Nat) : Int) := by show _ = ((n / 16777216 % 256 : Nat) : Int); omega
 have e1 : ((n : Int) / 65536 % 256) = ((b4 n 1 : Nat) : Int) := by show _ = ((n / 65536 % 256 : Nat) : Int); omega
 have e2 : ((n : Int) / 256 % 256) = ((b4 n 2 : Nat) : Int) := by show _ = ((n / 256 % 256 : Nat) : Int); omega
 have e3 : ((n : Int) % 256) = ((b4 n 3 : Nat) : Int) := by show _ = ((n % 256 : Nat) : Int); omega
 rw [e0, e1, e2, e3]; rfl
theorem four_a (n : Nat) (w : World) : Calls Tryz.prog 37 #[.int .i64 (n : Int)] w fun e w' => ∃ v, e = .returned v ∧ Own w' w.heap.size v 4 (b4 n) ∧ Chg w w' [] := by
 have HC := four_cellsA n
 go_enter Tryz.func37, Tryz.ntmps37
 go_wp2_with fail
 go_ret
 exact ⟨_, rfl, Blk.ownW (Blk.new _ _ _) rfl (fun i _ => b4_lt n i) (by omega), (Chg.refl _ _).alloc _⟩
theorem Framed_a (K n : Nat) (f : Nat → Nat) (v : Value) (hK : K < 256) (hn : n ≤ 140737488351232) (w : World) (hB : Sl w v n f) :
   Calls Tryz.prog 20 #[.int .i64 (K : Int), v] w fun e w' => ∃ u, e = .returned u ∧ Own w' w.heap.size u (4 + 2 + 4 + n + 4) (frB K n f) ∧ Chg w w' [] := by
 obtain ⟨p, c, rfl⟩ := slFm hB
 have HF : Hid (∀ W, Calls Tryz.prog 37 #[.int .i64 (n : Int)] W fun e w' => ∃ v, e = .returned v ∧ Own w' W.heap.size v 4 (b4 n) ∧ Chg W w' []) := fun W => four_a n W
 have HB : Hid (∀ W, Chg w W [] → Sl W (.slice p n c) n f) := fun W k => hB.chg k (by simp [Off])
 have HN : Hid (n ≤ 140737488351232 ∧ K < 256) := ⟨hn, hK⟩
 have ek : IntKind.u8.wrap (K : Int) = (K : Int) := by rw [u8_conv]; omega
 have HC := head_cells K
 clear hB hK hn
 go_enter Tryz.func20, Tryz.ntmps20
 go_wp2_with fail
 have k1 : Chg w (w.alloc (.cells (yC 6 (cat mgB 4 (vkB K))) 5)) [] := (Chg.refl _ _).alloc _
 have O1 : Own (w.alloc (.cells (yC 6 (cat mgB 4 (vkB K))) 5)) w.heap.size (.slice (some ⟨w.heap.size, 0, none⟩) 6 6) 6 (cat mgB 4 (vkB K)) := Blk.ownW (Blk.new _ _ _) rfl (fun i hi => by
   have hc : i = 0 ∨ i = 1 ∨ i = 2 ∨ i = 3 ∨ i = 4 ∨ i = 5 := by omega
   have := HN.out.2
   rcases hc with rfl | rfl | rfl | rfl | rfl | rfl
   · show 82 < 256; omega
   · show 73 < 256; omega
   · show 77 < 256; omega
   · show 69 < 256; omega
   · show 1 < 256; omega
   · show K < 256; omega) (by omega)
 obtain ⟨w1, hw1⟩ : ∃ z, z = w.alloc (.cells (yC 6 (cat mgB 4 (vkB K))) 5) := ⟨_, rfl⟩
 rw [← hw1] at k1 O1 ⊢
 clear hw1
 refine (HF.out w1).mono ?_
 rintro e w2 ⟨v2, rfl, O2, k2⟩
 have O1b := O1.far k2 (fun y hy => by simp at hy)
 have K2 := k1.trans1 k2
 have S2 := O2.sl
 clear O1 O2 k1 k2
 go_wp2_with (first
   | (with_reducible refine append_y ?_ (.tmp 10) (.tmp 13) ?_ w.heap.size (.slice (some ⟨w.heap.size, 0, none⟩) 6 6) _ 6 4 (cat mgB 4 (vkB K)) (b4 n) ?_ ?_ O1b S2 ?_ ?_ ?_
      · rfl
      · rfl
      · rfl
      · rfl
      · omega
      · exact K2.size
      intro v3 w3 O3 q3; have K3 := O1b.chgs K2 q3 (Nat.le_refl _); have S3 := HB.out w3 K3)
   | (with_reducible refine append_y ?_ (.tmp 15) (.tmp 16) ?_ w.heap.size v3 _ (6 + 4) n _ f ?_ ?_ O3 S3 ?_ ?_ ?_
      · rfl
      · rfl
      · rfl
      · rfl
      · have := HN.out; omega
      · exact K3.size
      intro v4 w4 O4 q4; have K4 := O3.chgs K3 q4 (Nat.le_refl _)))
 have e4 : cat (cat (cat mgB 4 (vkB K)) 6 (b4 n)) (6 + 4) f = fwB K n f := rfl
 rw [e4] at O4
 have O4' : Own w4 w.heap.size v4 (10 + n) (fwB K n f) := by
   rw [show 10 + n = 6 + 4 + n by omega]; exact O4
 clear O4 O3 O1b S2 S3 K2 K3 q3 q4 e4
 refine (Sum_r v4 (10 + n) (fwB K n f) w4 (by have := HN.out; omega) O4'.sl).mono ?_
 rintro e w5 ⟨rfl, k5⟩
 have O5 := O4'.far k5 (fun y hy => by simp at hy)
 have K5 := K4.trans1 k5
 clear O4' K4 k5
 obtain ⟨pv, cv, rfl⟩ := slFm O5.sl
 go_wp2_with (first
   | (refine store_w BD rfl 143 _ _ (yC 64 (sha (fwB K n f) (10 + n))) rfl rfl rfl (by rw [yC_size]; exact dgInfo) (by rw [yC_size, yC_size]) (yC_one 64 _) ?_; intro w7 BD7 k7
      have K7 : Chg w w7 [] := K5.trans1 (k6.new k7 hdb)
      have O7 := O5.far (k6.new k7 hdb) (fun y hy => by simp at hy)
      have S7 : Sl w7 (.slice (some ⟨db, 0, none⟩) 4 64) 4 (sha (fwB K n f) (10 + n)) := Or.inr ⟨db, 0, 64, rfl, by omega, by omega, BD7.lt, fun i _ => sha_lt _ _ i, fun i hi => by rw [BD7.cell, Nat.zero_add]; exact yC_get 64 _ i (by omega)⟩)
   | (with_reducible refine alloc_w rfl 143 rfl (.agg (yC 64 (fun _ => 0))) zeroDg (yC 64 (fun _ => 0)) rfl ?_; intro db w6 hdb BD k6)
   | (with_reducible refine append_y ?_ (.tmp 20) (.tmp 21) ?_ w.heap.size (.slice pv (10 + n) cv) _ (10 + n) 4 _ (sha (fwB K n f) (10 + n)) ?_ ?_ O7 S7 ?_ ?_ ?_
      · rfl
      · rfl
      · rfl
      · rfl
      · have := HN.out; omega
      · exact K7.size
      intro v8 w8 O8 q8))
 go_ret
 refine ⟨v8, rfl, ?_, O7.chgs K7 q8 (Nat.le_refl _)⟩
 rw [show 4 + 2 + 4 + n + 4 = 10 + n + 4 by omega, show frB K n f = cat (fwB K n f) (10 + n) (sha (fwB K n f) (10 + n)) by unfold frB; rw [show 4 + 2 + 4 + n = 10 + n by omega]]
 exact O8
end Go.Proofs.YtgjclegpnbjlkaaGreatDoor
