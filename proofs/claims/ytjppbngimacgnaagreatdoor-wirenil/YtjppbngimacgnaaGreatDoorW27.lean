/- rimelaw10.works. -/
import Derived.Test.YtjppbngimacgnaaGreatDoorW26
import Derived.Test.YtjppbngimacgnaaGreatDoorW24
import Derived.Test.YtjppbngimacgnaaGreatDoorW11
set_option linter.unusedVariables false
set_option linter.unusedSimpArgs false
set_option linter.unnecessarySimpa false
namespace Go.Proofs.YtjppbngimacgnaaGreatDoor
open Go.RowKit

def F5 : Nat → Nat := cat (hdB m5) 34 (b2 5)
def G5 : Nat → Nat := frB 5 (34 + 2) F5
theorem G5_lo (i : Nat) (hi : i < 46) : G5 i = fwB 5 (34 + 2) F5 i := if_pos hi
theorem G5_hi (j : Nat) : G5 (46 + j) = sha (fwB 5 (34 + 2) F5) 46 j := by
  show (if 46 + j < 46 then _ else sha (fwB 5 (34 + 2) F5) 46 (46 + j - 46)) = _
  rw [if_neg (by omega), Nat.add_sub_cancel_left]
theorem G5_sum (j : Nat) : G5 (46 + j) = sha G5 46 j := by
  rw [G5_hi, sha_congr (fun i hi => G5_lo i hi)]
theorem F5_ses (j : Nat) (hj : j < 32) : F5 j = 0 := by
  unfold F5 hdB cat
  rw [if_pos (by omega), if_pos hj]
  rfl
theorem G5_ses (j : Nat) (hj : j < 32) : G5 (10 + j) = 0 := by
  rw [G5_lo _ (by omega)]
  show (if 10 + j < 10 then _ else F5 (10 + j - 10)) = 0
  rw [if_neg (by omega), Nat.add_sub_cancel_left]
  exact F5_ses j hj
theorem G5_mg (i : Nat) (hi : i < 4) : G5 i = mgN i := by
  have h : i = 0 ∨ i = 1 ∨ i = 2 ∨ i = 3 := by omega
  rcases h with rfl | rfl | rfl | rfl <;> (rw [G5_lo _ (by omega)]; rfl)
theorem rd5_G5 : msC (rd5 G5) = msC m5 := by
  have e1 : (fun j => G5 (10 + j)) = fun j => G5 (10 + j) := rfl
  have e2 : nm G5 42 1 = 2 := by show (0 * 256 + G5 42) = 2; rw [G5_lo _ (by omega)]; rfl
  have e3 : nm G5 43 1 = 0 := by show (0 * 256 + G5 43) = 0; rw [G5_lo _ (by omega)]; rfl
  have e4 : nm G5 44 2 = 5 := by show ((0 * 256 + G5 44) * 256 + G5 45) = 5; rw [G5_lo _ (by omega), G5_lo _ (by omega)]; rfl
  have e5 : yL 32 (fun j => G5 (10 + j)) = yL 32 (fun _ => 0) := List.map_congr_left fun j hj => by show Value.int .u8 ((G5 (10 + j) : Nat) : Int) = _; rw [G5_ses j (by simpa using hj)]
  unfold msC msL rd5 m5
  simp only [e2, e3, e4, e5, ms0]
  rfl
theorem G5_code : 0 < nm G5 44 2 := by
  show 0 < ((0 * 256 + G5 44) * 256 + G5 45)
  rw [G5_lo _ (by omega), G5_lo _ (by omega)]
  decide
theorem G5_4 : G5 4 = 1 := by rw [G5_lo _ (by omega)]; rfl
theorem G5_5 : G5 5 = 5 := by rw [G5_lo _ (by omega)]; rfl
theorem G5_len : nm G5 6 4 = 36 := by
  show ((((0 * 256 + G5 6) * 256 + G5 7) * 256 + G5 8) * 256 + G5 9) = 36
  rw [G5_lo _ (by omega), G5_lo _ (by omega), G5_lo _ (by omega), G5_lo _ (by omega)]
  rfl
theorem check_5 (w : World) : Calls Tryz.prog 24 #[.agg (msC m5)] w fun e w' => e = .returned .nilIface ∧ Chg w w' [] := by
  refine (check_s m5 0 (fun _ => 0) (fun _ => zN) (fun _ => zN) none 0 0 w ⟨⟨cF_ok _ _ _ _, Or.inl ⟨rfl, rfl⟩⟩, fun j hj => by omega⟩ rfl).mono ?_
  rintro e w' ⟨v, rfl, h, k⟩
  refine ⟨?_, k⟩
  rcases h with ⟨h, _⟩ | ⟨_, h, _⟩ | ⟨_, _, h, _⟩ | ⟨_, _, _, h | h | h | h⟩
  · exact absurd (by unfold okKind m5 ms0; decide) h
  · exact absurd (by unfold okPt m5 ms0; decide) h
  · exact absurd (by unfold okPt m5 ms0; decide) h
  · rcases h.1 with h | h <;> (unfold m5 ms0 at h; simp at h)
  · have := h.1; unfold m5 ms0 at this; simp at this
  · rcases h.2 with h | h
    · rw [h.2]
    · exact absurd (by unfold okCode m5 ms0; decide) h.1
  · rw [h.2]
theorem Encode_5 (w : World) (hG : Gl w) : Calls Tryz.prog 14 #[.agg (msC m5)] w fun e w' => ∃ v, e = .returned (.tuple #[v, .nilIface]) ∧ Own w' w.heap.size v 50 G5 ∧ Chg w w' [] :=
  Encode_ok m5 5 rfl (by decide) (34 + 2) F5 (by decide) w hG (fun W _ => check_5 W) (fun W _ => bodyOf_5 m5 rfl (by unfold m5 ms0; decide) (by unfold m5 ms0; decide) (fun i _ => (by decide : (0 : Nat) < 256)) W 5 rfl (by decide))
theorem Decode_5 (g o c : Nat) (hc : 50 ≤ c) (hc2 : c ≤ 9223372036854775807) (w : World) (hG : Gl w) (hB : Bs w g o 50 G5) :
    Calls Tryz.prog 15 #[.slice (some ⟨g, o, none⟩) 50 c] w fun e w' => e = .returned (.tuple #[.agg (msC m5), .nilIface]) ∧ Chg w w' [] :=
  Decode_ok _ m5 ⟨rfl, rfl⟩ w fun W k => readFrame_ok g o 50 c 46 G5 5 m5 ⟨rfl, rfl⟩ rfl hc hc2 W (hG.chg k (by simp) (by simp)) (hB.chg k (by simp)) (fun j _ => G5_sum j)
    (fun W' k' => readHead_ok g o 50 c G5 5 36 (by decide) hc hc2 W' ((hB.chg k (by simp)).chg k' (by simp)) G5_mg G5_4 ⟨G5_5, by decide, by decide⟩ ⟨G5_len, by decide⟩)
    (fun W' r h1 h2 h3 => by have q := message_5 r c g o G5 _ _ (by omega) hc2 W' h1 h2 h3 G5_code; rw [rd5_G5] at q; exact q)
theorem Decode_49 (g o c : Nat) (hc : 50 ≤ c) (hc2 : c ≤ 9223372036854775807) (w : World) (hB : Bs w g o 50 G5) :
    Calls Tryz.prog 15 #[.slice (some ⟨g, o, none⟩) 49 c] w fun e w' => ∃ fv, e = .returned (.tuple #[.agg (msC (ms0 0)), fv]) ∧ Ft w' w.heap.size fv sFrame 49 3 ∧ Chg w w' [] :=
  Decode_gu _ sFrame 49 3 w fun W k => readFrame_short g o 49 c 50 5 (by decide) (by decide) W
    (fun W' k' => readHead_ok g o 49 c G5 5 36 (by decide) (by omega) hc2 W' (((hB.chg k (by simp)).chg k' (by simp)).lo (by decide)) G5_mg G5_4 ⟨G5_5, by decide, by decide⟩ ⟨G5_len, by decide⟩)
end Go.Proofs.YtjppbngimacgnaaGreatDoor
