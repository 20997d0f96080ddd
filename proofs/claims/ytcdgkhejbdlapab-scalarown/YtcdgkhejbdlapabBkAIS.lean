/- Book.Apart of a book in which only the lists Ints and Scalars are not nil. -/
import Derived.Test.YtcdgkhejbdlapabBkE
set_option linter.unusedVariables false
set_option linter.unusedSimpArgs false
set_option linter.unnecessarySimpa false
namespace Go.Proofs.Ytcdgkhejbdlapab
open Go.RowKit

theorem Chg.wide2 {w w' : World} {l l' : List Nat} (h : Chg w w' l) : Chg w w' (l ++ l') := (Chg.refl w (l ++ l')).trans h (fun y hy => Or.inl (by simp [hy]))
set_option maxHeartbeats 8000000 in
set_option maxRecDepth 100000 in
theorem Apart_IS (gb : Nat) (B : Nat → Value) (T : TypeId) (l1 l2 : List Nat) (hB : ∀ q, q < 21 → ¬ q = 1 → ¬ q = 4 → B q = .slice none 0 0) (h1 : ¬ gb ∈ l1) (h2 : ¬ gb ∈ l2) (w : World) (h : Blk w gb (bkC B) T)
    (hx1 : ∀ w', Chg w w' [] → Blk w' gb (bkC B) T → Calls Try.prog 50 #[.pointer (some ⟨gb, 0, none⟩)] w' fun e w'' => e = .returned (.bool true) ∧ Chg w' w'' l1)
    (hx2 : ∀ w', Chg w w' l1 → Blk w' gb (bkC B) T → Calls Try.prog 53 #[.pointer (some ⟨gb, 0, none⟩)] w' fun e w'' => e = .returned (.bool true) ∧ Chg w' w'' l2) :
    Calls Try.prog 34 #[.pointer (some ⟨gb, 0, none⟩)] w fun e w' => e = .returned (.bool true) ∧ Chg w w' (l1 ++ l2) := by
  have HX1 : Hid (∀ w', Chg w w' [] → Blk w' gb (bkC B) T → Calls Try.prog 50 #[.pointer (some ⟨gb, 0, none⟩)] w' fun e w'' => e = .returned (.bool true) ∧ Chg w' w'' l1) := hx1
  have HX2 : Hid (∀ w', Chg w w' l1 → Blk w' gb (bkC B) T → Calls Try.prog 53 #[.pointer (some ⟨gb, 0, none⟩)] w' fun e w'' => e = .returned (.bool true) ∧ Chg w' w'' l2) := hx2
  have HB : Hid (∀ q, q < 21 → ¬ q = 1 → ¬ q = 4 → B q = .slice none 0 0) := hB
  have HG1 : Hid (¬ gb ∈ l1) := h1
  have HG2 : Hid (¬ gb ∈ l2) := h2
  have C := Chg.refl w []
  have BK := h
  clear hx1 hx2 hB h1 h2 h
  go_enter Try.func34, Try.ntmps34
  go_wp2_with fail
  refine (apartBytes_nil gb B T (HB.out 0 (by decide) (by decide) (by decide)) _ BK).mono ?_
  rintro e x0 ⟨rfl, k⟩
  replace BK := BK.chg k (by simp)
  replace C := C.trans1 k
  clear k
  go_wp2_with fail
  refine (HX1.out _ C BK).mono ?_
  rintro e x1 ⟨rfl, k⟩
  replace BK := BK.chg k HG1.out
  have D := (Chg.wide (l := l1) C).trans1 k
  clear C k
  go_wp2_with fail
  refine (apartPath_nil gb B T (HB.out 2 (by decide) (by decide) (by decide)) _ BK).mono ?_
  rintro e x2 ⟨rfl, k⟩
  replace BK := BK.chg k (by simp)
  replace D := D.trans1 k.wide
  clear k
  go_wp2_with fail
  refine (apartFes_nil gb B T (HB.out 3 (by decide) (by decide) (by decide)) _ BK).mono ?_
  rintro e x3 ⟨rfl, k⟩
  replace BK := BK.chg k (by simp)
  replace D := D.trans1 k.wide
  clear k
  go_wp2_with fail
  refine (HX2.out _ D BK).mono ?_
  rintro e x4 ⟨rfl, k⟩
  replace BK := BK.chg k HG2.out
  have E := (Chg.wide2 (l' := l2) D).trans k (fun y hy => Or.inl (by simp [hy]))
  clear D k
  go_wp2_with fail
  refine (apartElements_nil gb B T (HB.out 5 (by decide) (by decide) (by decide)) _ BK).mono ?_
  rintro e x5 ⟨rfl, k⟩
  replace BK := BK.chg k (by simp)
  replace E := E.trans1 k.wide
  clear k
  go_wp2_with fail
  refine (apartRandoms_nil gb B T (HB.out 6 (by decide) (by decide) (by decide)) _ BK).mono ?_
  rintro e x6 ⟨rfl, k⟩
  replace BK := BK.chg k (by simp)
  replace E := E.trans1 k.wide
  clear k
  go_wp2_with fail
  refine (apartHashes_nil gb B T (HB.out 7 (by decide) (by decide) (by decide)) _ BK).mono ?_
  rintro e x7 ⟨rfl, k⟩
  replace BK := BK.chg k (by simp)
  replace E := E.trans1 k.wide
  clear k
  go_wp2_with fail
  refine (apartShares_nil gb B T (HB.out 8 (by decide) (by decide) (by decide)) _ BK).mono ?_
  rintro e x8 ⟨rfl, k⟩
  replace BK := BK.chg k (by simp)
  replace E := E.trans1 k.wide
  clear k
  go_wp2_with fail
  refine (apartSigShares_nil gb B T (HB.out 9 (by decide) (by decide) (by decide)) _ BK).mono ?_
  rintro e x9 ⟨rfl, k⟩
  replace BK := BK.chg k (by simp)
  replace E := E.trans1 k.wide
  clear k
  go_wp2_with fail
  refine (apartFactors_nil gb B T (HB.out 10 (by decide) (by decide) (by decide)) _ BK).mono ?_
  rintro e x10 ⟨rfl, k⟩
  replace BK := BK.chg k (by simp)
  replace E := E.trans1 k.wide
  clear k
  go_wp2_with fail
  refine (apartCommitments_nil gb B T (HB.out 11 (by decide) (by decide) (by decide)) _ BK).mono ?_
  rintro e x11 ⟨rfl, k⟩
  replace BK := BK.chg k (by simp)
  replace E := E.trans1 k.wide
  clear k
  go_wp2_with fail
  refine (apartPublics_nil gb B T (HB.out 12 (by decide) (by decide) (by decide)) _ BK).mono ?_
  rintro e x12 ⟨rfl, k⟩
  replace BK := BK.chg k (by simp)
  replace E := E.trans1 k.wide
  clear k
  go_wp2_with fail
  refine (apartSecrets_nil gb B T (HB.out 13 (by decide) (by decide) (by decide)) _ BK).mono ?_
  rintro e x13 ⟨rfl, k⟩
  replace BK := BK.chg k (by simp)
  replace E := E.trans1 k.wide
  clear k
  go_wp2_with fail
  refine (apartComplaints_nil gb B T (HB.out 14 (by decide) (by decide) (by decide)) _ BK).mono ?_
  rintro e x14 ⟨rfl, k⟩
  replace BK := BK.chg k (by simp)
  replace E := E.trans1 k.wide
  clear k
  go_wp2_with fail
  refine (apartPlainLinks_nil gb B T (HB.out 15 (by decide) (by decide) (by decide)) _ BK).mono ?_
  rintro e x15 ⟨rfl, k⟩
  replace BK := BK.chg k (by simp)
  replace E := E.trans1 k.wide
  clear k
  go_wp2_with fail
  refine (apartPlainClaims_nil gb B T (HB.out 16 (by decide) (by decide) (by decide)) _ BK).mono ?_
  rintro e x16 ⟨rfl, k⟩
  replace BK := BK.chg k (by simp)
  replace E := E.trans1 k.wide
  clear k
  go_wp2_with fail
  refine (apartPlainPackets_nil gb B T (HB.out 17 (by decide) (by decide) (by decide)) _ BK).mono ?_
  rintro e x17 ⟨rfl, k⟩
  replace BK := BK.chg k (by simp)
  replace E := E.trans1 k.wide
  clear k
  go_wp2_with fail
  refine (apartPlainMessages_nil gb B T (HB.out 18 (by decide) (by decide) (by decide)) _ BK).mono ?_
  rintro e x18 ⟨rfl, k⟩
  replace BK := BK.chg k (by simp)
  replace E := E.trans1 k.wide
  clear k
  go_wp2_with fail
  refine (apartPlainSeen_nil gb B T (HB.out 19 (by decide) (by decide) (by decide)) _ BK).mono ?_
  rintro e x19 ⟨rfl, k⟩
  replace BK := BK.chg k (by simp)
  replace E := E.trans1 k.wide
  clear k
  go_wp2_with fail
  refine (apartPlainEvents_nil gb B T (HB.out 20 (by decide) (by decide) (by decide)) _ BK).mono ?_
  rintro e x20 ⟨rfl, k⟩
  replace BK := BK.chg k (by simp)
  replace E := E.trans1 k.wide
  clear k
  go_wp2_with fail
  go_ret
  exact ⟨rfl, E⟩
end Go.Proofs.Ytcdgkhejbdlapab
