/- slices.Concat of two lists of bytes. -/
import Derived.Test.YtjppbngimacgnaaGreatDoorW3
set_option linter.unusedVariables false
set_option linter.unusedSimpArgs false
set_option linter.unnecessarySimpa false
namespace Go.Proofs.YtjppbngimacgnaaGreatDoor
open Go.RowKit

theorem Sl.fm {w : World} {v : Value} {n : Nat} {f : Nat → Nat} (h : Sl w v n f) : ∃ p c, v = .slice p n c := by
  rcases h with ⟨rfl, rfl⟩ | ⟨g, o, c, rfl, _⟩
  · exact ⟨_, _, rfl⟩
  · exact ⟨_, _, rfl⟩
def szf (n1 n2 i : Nat) : Nat := if i = 0 then 0 else if i = 1 then n1 else n1 + n2
def ctf (f1 f2 : Nat → Nat) (n1 i : Nat) : Nat → Nat := if i < 2 then f1 else cat f1 n1 f2
set_option maxHeartbeats 8000000 in
set_option maxRecDepth 100000 in
theorem Concat_2 (g c : Nat) (v1 v2 : Value) (n1 n2 : Nat) (f1 f2 : Nat → Nat) (h0 : 0 < n1 + n2) (hn : n1 + n2 ≤ 1000000000) (w : World) (hB : Blk w g #[v1, v2] 24) (h1 : Sl w v1 n1 f1) (h2 : Sl w v2 n2 f2) :
    Calls Tryz.prog 26 #[.slice (some ⟨g, 0, none⟩) 2 c] w fun e w' => ∃ v', e = .returned v' ∧ Own w' w.heap.size v' (n1 + n2) (cat f1 n1 f2) ∧ Chg w w' [] := by
  have HN : Hid (0 < n1 + n2 ∧ n1 + n2 ≤ 1000000000) := ⟨h0, hn⟩
  have H1 : Hid (∀ W, Chg w W [] → Sl W v1 n1 f1) := fun W h => h1.chg h (Off.nil _)
  have H2 : Hid (∀ W, Chg w W [] → Sl W v2 n2 f2) := fun W h => h2.chg h (Off.nil _)
  have HC1 : Hid (∀ W, Chg w W [] → W.cell? ⟨g, 0, none⟩ = some v1) := fun W h => by rw [(hB.chg h (by simp)).cell]; rfl
  have HC2 : Hid (∀ W, Chg w W [] → W.cell? ⟨g, 1, none⟩ = some v2) := fun W h => by rw [(hB.chg h (by simp)).cell]; rfl
  obtain ⟨p1, c1, rfl⟩ := h1.fm
  obtain ⟨p2, c2, rfl⟩ := h2.fm
  clear h0 hn h1 h2 hB
  go_enter Tryz.func26, Tryz.ntmps26
  go_wp2_with fail
  --CUT0
  go_loopw [3, 11] (fun t3 t11 wr => ∃ i : Nat, i ≤ 2 ∧ t3 = .int .i64 ((szf n1 n2 i : Nat) : Int) ∧ t11 = .int .i64 (i : Int) ∧ wr = w) (fun _ t _ => (2 - intOf t).toNat)
  case atStart => exact ⟨0, by omega, rfl, rfl, rfl⟩
  case round =>
    obtain ⟨i, hi, rfl, rfl, rfl⟩ := hrel
    obtain ⟨w0, hw0⟩ : ∃ z, z = wr := ⟨_, rfl⟩
    subst hw0
    obtain rfl | rfl | rfl : i = 0 ∨ i = 1 ∨ i = 2 := by omega
    · have ca := HC1.out _ (Chg.refl _ _)
      have ew : IntKind.i64.wrap ((n1 : Nat) : Int) = ((n1 : Nat) : Int) := by have := HN.out; rw [IntKind.wrap_i64]; omega
      have es : szf n1 n2 0 = 0 := rfl
      have hl : ¬ ((n1 : Nat) : Int) < 0 := by omega
      rw [es]
      go_wp2_with fail
      --CUT1
      exact ⟨⟨1, by omega, rfl, rfl, by trivial⟩, by decide⟩
    · have ca := HC2.out _ (Chg.refl _ _)
      have es : szf n1 n2 1 = n1 := rfl
      have ew : IntKind.i64.wrap (((n1 : Nat) : Int) + ((n2 : Nat) : Int)) = ((n1 : Nat) : Int) + ((n2 : Nat) : Int) := by have := HN.out; rw [IntKind.wrap_i64]; omega
      have hl : ¬ ((n1 : Nat) : Int) + ((n2 : Nat) : Int) < 0 := by omega
      rw [es]
      go_wp2_with fail
      --CUT2
      exact ⟨⟨2, by omega, by show _ = Value.int .i64 ((n1 + n2 : Nat) : Int); simp, rfl, by trivial⟩, by decide⟩
    · have es : szf n1 n2 2 = n1 + n2 := rfl
      rw [es]
      go_wp2_with fail
      --CUT3
      refine (Grow_s (n1 + n2) HN.out.1 HN.out.2 _).mono ?_
      rintro e w2 ⟨v', rfl, O, k⟩
      have O0 : Own w2 w0.heap.size v' (szf n1 n2 0) (ctf f1 f2 n1 0) := O _
      have HB : Hid (w0.heap.size ≤ w2.heap.size) := k.size
      clear O
      go_wp2_with fail
      --CUT4
      go_loopw [6, 27] (fun t6 t27 wq => ∃ i : Nat, i ≤ 2 ∧ t27 = .int .i64 (i : Int) ∧ Own wq w0.heap.size t6 (szf n1 n2 i) (ctf f1 f2 n1 i) ∧ Chg w0 wq []) (fun _ t _ => (2 - intOf t).toNat)
      case atStart => exact ⟨0, by omega, rfl, O0, k⟩
      case round =>
        clear O0 k HB
        obtain ⟨i, hi, rfl, Oi, C⟩ := hrel
        obtain rfl | rfl | rfl : i = 0 ∨ i = 1 ∨ i = 2 := by omega
        · have ca := HC1.out _ C
          have HS := H1.out _ C
          go_wp2_with (first
            | (with_reducible refine append_y ?_ (.tmp 31) (.tmp 32) ?_ w0.heap.size _ _ _ n1 _ f1 ?_ ?_ Oi HS ?_ ?_ ?_
               · rfl
               · rfl
               · rfl
               · rfl
               · have := HN.out; unfold szf; simp; omega
               · exact C.size
               intro v5 w5 O5 k5))
          have O6 : Own w5 w0.heap.size v5 (szf n1 n2 1) (ctf f1 f2 n1 1) := by
            have e : szf n1 n2 0 + n1 = szf n1 n2 1 := Nat.zero_add n1
            rw [← e]
            exact O5.cg (fun j hj => by show cat _ 0 f1 j = f1 j; rw [cat_zero])
          exact ⟨⟨1, by omega, rfl, O6, C.trans k5 (fun x hx => Or.inr (Oi.ob_ge x hx).1)⟩, by decide⟩
        · have ca := HC2.out _ C
          have HS := H2.out _ C
          go_wp2_with (first
            | (with_reducible refine append_y ?_ (.tmp 31) (.tmp 32) ?_ w0.heap.size _ _ _ n2 _ f2 ?_ ?_ Oi HS ?_ ?_ ?_
               · rfl
               · rfl
               · rfl
               · rfl
               · have := HN.out; unfold szf; simp; omega
               · exact C.size
               intro v5 w5 O5 k5))
          exact ⟨⟨2, by omega, rfl, O5, C.trans k5 (fun x hx => Or.inr (Oi.ob_ge x hx).1)⟩, by decide⟩
        · go_wp2_with fail
          go_ret
          exact ⟨_, rfl, Oi, C⟩
end Go.Proofs.YtjppbngimacgnaaGreatDoor
