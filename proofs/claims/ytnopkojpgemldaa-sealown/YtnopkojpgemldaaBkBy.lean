/- Book.Bytes: one more list of bytes in the book. -/
import Derived.Test.YtnopkojpgemldaaBkE
import Derived.Test.YtnopkojpgemldaaMgH
set_option linter.unusedVariables false
set_option linter.unusedSimpArgs false
set_option linter.unnecessarySimpa false
namespace Go.Proofs.Ytnopkojpgemldaa
open Go.RowKit

theorem listRowY : ∃ i, Try.prog.info? 26 = some i ∧ i.zero = some (.slice none 0 0) ∧ i.size = 1 ∧ i.bytes = 24 := by
  have h : (Try.prog.info? 26).map (fun i => (i.zero, i.size, i.bytes)) = some (some (.slice none 0 0), 1, 24) := by kernel_rfl
  cases hi : Try.prog.info? 26 with
  | none => rw [hi] at h; simp at h
  | some i => rw [hi] at h; simp at h; exact ⟨i, rfl, h.1, h.2.1, h.2.2⟩
theorem bkC_set (B : Nat → Value) (i : Nat) (v : Value) : (bkC B).setIfInBounds i v = bkC (upV B i v) := by
  apply Array.ext_getElem?
  intro k
  by_cases h : k < 21
  · rw [bkC_get _ _ h]
    by_cases h2 : i = k
    · subst h2
      rw [Array.getElem?_setIfInBounds_self_of_lt (by simp [bkC]; exact h), upV_same]
    · rw [Array.getElem?_setIfInBounds_ne h2, bkC_get _ _ h, upV_other _ _ _ _ (fun e => h2 e.symm)]
  · rw [Array.getElem?_eq_none (by simp [bkC]; omega), Array.getElem?_eq_none (by simp [bkC]; omega)]
set_option maxHeartbeats 4000000 in
set_option maxRecDepth 100000 in
theorem BookBytes_nil (gb : Nat) (w : World) : Calls Try.prog 23 #[.pointer (some ⟨gb, 0, none⟩), .slice none 0 0] w fun e w' => e = .returned (.tuple #[]) ∧ w' = w := by
  go_enter Try.func23, Try.ntmps23
  go_wp2_with fail
  go_end0
  exact ⟨rfl, rfl⟩
set_option maxHeartbeats 4000000 in
set_option maxRecDepth 100000 in
theorem BookBytes_s (gb base K o n c : Nat) (B : Nat → Value) (vs : List Value) (hK : K ≤ 1000) (hn : 0 < n) (w : World) (hb : base ≤ w.heap.size) (h : Blk w gb (bkC B) 77) (hl : w.ownsRow base 26 1 (B 0) K vs) :
    Calls Try.prog 23 #[.pointer (some ⟨gb, 0, none⟩), .slice (some ⟨o, 0, none⟩) n c] w fun e w' => e = .returned (.tuple #[]) ∧ ∃ lg lc, (lg ∈ ob (B 0) ∨ w.heap.size ≤ lg) ∧ Blk w' gb (bkC (upV B 0 (.slice (some ⟨lg, 0, none⟩) (K + 1) lc))) 77 ∧
      w'.ownsRow base 26 1 (.slice (some ⟨lg, 0, none⟩) (K + 1) lc) (K + 1) (vs ++ [.slice (some ⟨o, 0, none⟩) n c]) ∧ Chg w w' (gb :: ob (B 0)) := by
  obtain ⟨inf, hinf, hz, hs1, hs2⟩ := listRowY
  obtain ⟨la0, hla0⟩ : ∃ v, B 0 = v := ⟨_, rfl⟩
  rw [hla0] at hl ⊢
  have HLA0 : Hid (B 0 = la0) := hla0
  have cg0 : w.cell? ⟨gb, 0, none⟩ = some la0 := by rw [h.cell, bkC_get _ _ (by decide), hla0]
  have g8 : ¬ gb ∈ ob la0 := fun hx => by obtain ⟨C, hC⟩ := ownsRow_blk hl hx; exact h.ne hC (by decide) rfl
  have HNI : Hid (0 < n) := hn
  have hni : (0 : Int) < (n : Int) := by omega
  have AL := Blk.new w #[.slice (some ⟨o, 0, none⟩) n c] 26
  have HNW : Hid (∀ j u, ([.slice (some ⟨o, 0, none⟩) n c] : List Value)[j]? = some u → (w.alloc (.cells #[.slice (some ⟨o, 0, none⟩) n c] 26)).cell? ((⟨w.heap.size, 0, none⟩ : Addr).add j) = some u) := by
    intro j u hj
    refine add_cell ?_
    rw [Nat.zero_add, AL.cell]
    simpa using hj
  have HLA : Hid ((w.alloc (.cells #[.slice (some ⟨o, 0, none⟩) n c] 26)).ownsRow base 26 1 la0 K vs) := hl.alloc _
  have H63 : Hid (K + 1 ≤ maxLen) := by show K + 1 ≤ maxLen; simp only [maxLen]; omega
  have HBY : Hid ((K + 1) * 24 ≤ 140737488355328) := by show (K + 1) * 24 ≤ 140737488355328; omega
  have HBA : Hid (base ≤ (w.alloc (.cells #[.slice (some ⟨o, 0, none⟩) n c] 26)).heap.size) := by show base ≤ _; simp; omega
  have HON : Hid (∀ u ∈ ([.slice (some ⟨o, 0, none⟩) n c] : List Value), u.oneCell' = true) := by show ∀ u ∈ ([.slice (some ⟨o, 0, none⟩) n c] : List Value), u.oneCell' = true; simp [Value.oneCell']
  have GA := h.alloc (.cells #[.slice (some ⟨o, 0, none⟩) n c] 26)
  have CA := (Chg.refl w (gb :: ob la0)).alloc (.cells #[.slice (some ⟨o, 0, none⟩) n c] 26)
  have wasz : (w.alloc (.cells #[.slice (some ⟨o, 0, none⟩) n c] 26)).heap.size = w.heap.size + 1 := by simp
  clear AL hl h hK hn hla0
  go_enter Try.func23, Try.ntmps23
  go_wp2_with (with_reducible refine wpList_append_lies _ ?_ (.tmp 11) (.tmp 13) 48 ?_ base 26 inf (.slice none 0 0) 1 24 Try.underlying48 hinf hz hs1 hs2 ?_ ?_ la0 K vs ?_ HLA.out ⟨w.heap.size, 0, none⟩ 1 1 [.slice (some ⟨o, 0, none⟩) n c] ?_ ?_ HNW.out HON.out ?_ H63.out HBY.out HBA.out (w.heap.size + 1) ?_ ?_
               · rfl
               · rfl
               · rfl
               · decide
               · rfl
               · rfl
               · rfl
               · decide
               · exact wasz
               intro lg lc w1 O1 G1 hat hlt
               replace G1 := Chg.grown G1
               have GB0 := GA.chg G1 g8
               have cgb : w1.cell? ⟨gb, 0, none⟩ = some la0 := by rw [GB0.cell, bkC_get _ _ (by decide)]; exact congrArg some HLA0.out
               have fgb := GB0.frozen 0)
  have lgg : ¬ lg = gb := by obtain ⟨C, hC⟩ := ownsRow_blk O1 (k := lg) (by rw [ob_slice]; simp); exact hC.ne GB0 (by decide)
  have GB := (GB0.setCell 0 (.slice (some ⟨lg, 0, none⟩) (K + 1) lc)).to (bkC_set _ _ _)
  have SV := (Chg.refl w1 [gb]).setIn (k := gb) (by simp) 0 (.slice (some ⟨lg, 0, none⟩) (K + 1) lc)
  have LA1 := ownsRow_chg O1 SV (by rw [ob_slice]; simpa using lgg)
  have CV := (CA.trans G1 (fun x hx => Or.inl (by simp [hx]))).setIn (k := gb) (by simp) 0 (.slice (some ⟨lg, 0, none⟩) (K + 1) lc)
  go_end0
  exact ⟨rfl, lg, lc, by rcases hat with q | q; exact Or.inl (by simp [ob, q]); exact Or.inr (by omega), GB, LA1, CV⟩
end Go.Proofs.Ytnopkojpgemldaa
