/- Book.Apart of a book in which only the lists Bytes are not nil. -/
import Derived.Test.YtnopkojpgemldaaBkE
set_option linter.unusedVariables false
set_option linter.unusedSimpArgs false
set_option linter.unnecessarySimpa false
namespace Go.Proofs.Ytnopkojpgemldaa
open Go.RowKit

set_option maxHeartbeats 8000000 in
set_option maxRecDepth 100000 in
theorem Apart_Bytes (gb : Nat) (B : Nat → Value) (T : TypeId) (l : List Nat) (hB : ∀ q, q < 21 → ¬ q = 0 → B q = .slice none 0 0) (hn : ¬ gb ∈ l) (w : World) (h : Blk w gb (bkC B) T)
    (hx : ∀ w', Chg w w' [] → Blk w' gb (bkC B) T → Calls Try.prog 39 #[.pointer (some ⟨gb, 0, none⟩)] w' fun e w'' => e = .returned (.bool true) ∧ Chg w' w'' l) :
    Calls Try.prog 24 #[.pointer (some ⟨gb, 0, none⟩)] w fun e w' => e = .returned (.bool true) ∧ Chg w w' l := by
  have HX : Hid (∀ w', Chg w w' [] → Blk w' gb (bkC B) T → Calls Try.prog 39 #[.pointer (some ⟨gb, 0, none⟩)] w' fun e w'' => e = .returned (.bool true) ∧ Chg w' w'' l) := hx
  have HB : Hid (∀ q, q < 21 → ¬ q = 0 → B q = .slice none 0 0) := hB
  have HNG : Hid (¬ gb ∈ l) := hn
  have C := Chg.refl w []
  have D := Chg.refl w l
  have BK := h
  clear hx hB hn h
  go_enter Try.func24, Try.ntmps24
  go_wp2_with fail
  refine (HX.out _ C BK).mono ?_
  rintro e x1 ⟨rfl, k⟩
  replace BK := BK.chg k HNG.out
  clear C
  replace D := D.trans1 k
  clear k
  go_wp2_with fail
  refine (apartInts_nil gb B T (HB.out 1 (by decide) (by decide)) _ BK).mono ?_
  rintro e x4 ⟨rfl, k⟩
  replace BK := BK.chg k (by simp)
  replace D := D.trans1 k.wide
  clear k
  go_wp2_with fail
  refine (apartPath_nil gb B T (HB.out 2 (by decide) (by decide)) _ BK).mono ?_
  rintro e x8 ⟨rfl, k⟩
  replace BK := BK.chg k (by simp)
  replace D := D.trans1 k.wide
  clear k
  go_wp2_with fail
  refine (apartFes_nil gb B T (HB.out 3 (by decide) (by decide)) _ BK).mono ?_
  rintro e x12 ⟨rfl, k⟩
  replace BK := BK.chg k (by simp)
  replace D := D.trans1 k.wide
  clear k
  go_wp2_with fail
  refine (apartScalars_nil gb B T (HB.out 4 (by decide) (by decide)) _ BK).mono ?_
  rintro e x16 ⟨rfl, k⟩
  replace BK := BK.chg k (by simp)
  replace D := D.trans1 k.wide
  clear k
  go_wp2_with fail
  refine (apartElements_nil gb B T (HB.out 5 (by decide) (by decide)) _ BK).mono ?_
  rintro e x20 ⟨rfl, k⟩
  replace BK := BK.chg k (by simp)
  replace D := D.trans1 k.wide
  clear k
  go_wp2_with fail
  refine (apartRandoms_nil gb B T (HB.out 6 (by decide) (by decide)) _ BK).mono ?_
  rintro e x24 ⟨rfl, k⟩
  replace BK := BK.chg k (by simp)
  replace D := D.trans1 k.wide
  clear k
  go_wp2_with fail
  refine (apartHashes_nil gb B T (HB.out 7 (by decide) (by decide)) _ BK).mono ?_
  rintro e x28 ⟨rfl, k⟩
  replace BK := BK.chg k (by simp)
  replace D := D.trans1 k.wide
  clear k
  go_wp2_with fail
  refine (apartShares_nil gb B T (HB.out 8 (by decide) (by decide)) _ BK).mono ?_
  rintro e x32 ⟨rfl, k⟩
  replace BK := BK.chg k (by simp)
  replace D := D.trans1 k.wide
  clear k
  go_wp2_with fail
  refine (apartSigShares_nil gb B T (HB.out 9 (by decide) (by decide)) _ BK).mono ?_
  rintro e x36 ⟨rfl, k⟩
  replace BK := BK.chg k (by simp)
  replace D := D.trans1 k.wide
  clear k
  go_wp2_with fail
  refine (apartFactors_nil gb B T (HB.out 10 (by decide) (by decide)) _ BK).mono ?_
  rintro e x40 ⟨rfl, k⟩
  replace BK := BK.chg k (by simp)
  replace D := D.trans1 k.wide
  clear k
  go_wp2_with fail
  refine (apartCommitments_nil gb B T (HB.out 11 (by decide) (by decide)) _ BK).mono ?_
  rintro e x44 ⟨rfl, k⟩
  replace BK := BK.chg k (by simp)
  replace D := D.trans1 k.wide
  clear k
  go_wp2_with fail
  refine (apartPublics_nil gb B T (HB.out 12 (by decide) (by decide)) _ BK).mono ?_
  rintro e x48 ⟨rfl, k⟩
  replace BK := BK.chg k (by simp)
  replace D := D.trans1 k.wide
  clear k
  go_wp2_with fail
  refine (apartSecrets_nil gb B T (HB.out 13 (by decide) (by decide)) _ BK).mono ?_
  rintro e x52 ⟨rfl, k⟩
  replace BK := BK.chg k (by simp)
  replace D := D.trans1 k.wide
  clear k
  go_wp2_with fail
  refine (apartComplaints_nil gb B T (HB.out 14 (by decide) (by decide)) _ BK).mono ?_
  rintro e x56 ⟨rfl, k⟩
  replace BK := BK.chg k (by simp)
  replace D := D.trans1 k.wide
  clear k
  go_wp2_with fail
  refine (apartPlainLinks_nil gb B T (HB.out 15 (by decide) (by decide)) _ BK).mono ?_
  rintro e x60 ⟨rfl, k⟩
  replace BK := BK.chg k (by simp)
  replace D := D.trans1 k.wide
  clear k
  go_wp2_with fail
  refine (apartPlainClaims_nil gb B T (HB.out 16 (by decide) (by decide)) _ BK).mono ?_
  rintro e x64 ⟨rfl, k⟩
  replace BK := BK.chg k (by simp)
  replace D := D.trans1 k.wide
  clear k
  go_wp2_with fail
  refine (apartPlainPackets_nil gb B T (HB.out 17 (by decide) (by decide)) _ BK).mono ?_
  rintro e x68 ⟨rfl, k⟩
  replace BK := BK.chg k (by simp)
  replace D := D.trans1 k.wide
  clear k
  go_wp2_with fail
  refine (apartPlainMessages_nil gb B T (HB.out 18 (by decide) (by decide)) _ BK).mono ?_
  rintro e x72 ⟨rfl, k⟩
  replace BK := BK.chg k (by simp)
  replace D := D.trans1 k.wide
  clear k
  go_wp2_with fail
  refine (apartPlainSeen_nil gb B T (HB.out 19 (by decide) (by decide)) _ BK).mono ?_
  rintro e x76 ⟨rfl, k⟩
  replace BK := BK.chg k (by simp)
  replace D := D.trans1 k.wide
  clear k
  go_wp2_with fail
  refine (apartPlainEvents_nil gb B T (HB.out 20 (by decide) (by decide)) _ BK).mono ?_
  rintro e x80 ⟨rfl, k⟩
  replace BK := BK.chg k (by simp)
  replace D := D.trans1 k.wide
  clear k
  go_wp2_with fail
  go_ret
  exact ⟨rfl, D⟩
end Go.Proofs.Ytnopkojpgemldaa
