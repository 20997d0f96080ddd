/- rimeplain: markBytes, CopyBytes, SameBytes; (*Given).Bytes. -/
import Derived.Test.YtjcgjhncdaplcabDoorByt
set_option linter.unusedVariables false
set_option linter.unusedSimpArgs false
set_option linter.unnecessarySimpa false
namespace Go.Proofs.YtjcgjhncdaplcabDoor
open Go.RowKit

/-- The mark at place k. -/
def mkb (k : Nat) : Nat := (30602 + 7 * k) % 256
theorem mkb_lt (k : Nat) : mkb k < 256 := Nat.mod_lt _ (by decide)
theorem markBytes_s (k : Nat) (hk : k ≤ 140737488355331) (w : World) : Calls Tryd.prog 49 #[.int .i64 987, .int .i64 (k : Int)] w fun x w' => x = .returned (.int .u8 ((mkb k : Nat) : Int)) ∧ w' = w := by
  have e1 : IntKind.i64.wrap ((k : Int) * 7) = (k : Int) * 7 := by rw [IntKind.wrap_i64]; omega
  have e2 : IntKind.i64.wrap (30597 + (k : Int) * 7) = 30597 + (k : Int) * 7 := by rw [IntKind.wrap_i64]; omega
  have e3 : IntKind.i64.wrap (30597 + (k : Int) * 7 + 5) = 30597 + (k : Int) * 7 + 5 := by rw [IntKind.wrap_i64]; omega
  have e4 : IntKind.u8.wrap (30597 + (k : Int) * 7 + 5) = ((mkb k : Nat) : Int) := by rw [IntKind.wrap_u8']; unfold mkb; omega
  go_enter Tryd.func49, Tryd.ntmps49
  go_wp2
  go_ret
  exact ⟨by rw [← e4]; congr 2, rfl⟩
set_option maxHeartbeats 4000000 in
theorem CopyBytes_s (v : Value) (n : Nat) (f : Nat → Nat) (w : World) (hn : n ≤ 211106232532992) (hv : Sl w v n f) :
    Calls Tryd.prog 6 #[v] w fun e w' => ∃ v', e = .returned v' ∧ Own w' w.heap.size v' n f ∧ Chg w w' [] := by
  go_enter Tryd.func6, Tryd.ntmps6
  go_wp2_with (refine append_y rfl (.tmp 4) (.tmp 5) rfl w.heap.size (.slice none 0 0) v 0 n f f rfl rfl (Own.nil _ _ f) hv (by omega) (Nat.le_refl _) ?_; intro a1 w1 O1 q1; rw [Nat.zero_add, cat_zero] at O1; replace q1 : Chg w w1 [] := q1)
  go_ret
  exact ⟨a1, rfl, O1, q1⟩
set_option maxHeartbeats 4000000 in
set_option maxRecDepth 100000 in
theorem SameBytes_g (g o c g' o' c' n : Nat) (f f' : Nat → Nat) (w : World) (hn : n ≤ 9223372036854775807) (hb : Bs w g o n f) (hb' : Bs w g' o' n f') (hf : ∀ i, i < n → f i = f' i) :
    Calls Tryd.prog 70 #[.slice (some ⟨g, o, none⟩) n c, .slice (some ⟨g', o', none⟩) n c'] w fun e w' => e = .returned (.bool true) ∧ ∃ m, w' = w.drewN m := by
  go_enter Tryd.func70, Tryd.ntmps70
  go_wp2_with fail
  go_loopw [5] (fun t wr => ∃ i : Nat, i ≤ n ∧ t = .int .i64 (i : Int) ∧ ∃ m, wr = w.drewN m) (fun t _ => ((n : Int) - intOf t).toNat)
  case atStart => exact ⟨0, by omega, rfl, 0, rfl⟩
  case round =>
    obtain ⟨i, hi, rfl, q, rfl⟩ := hrel
    by_cases h8 : i < n
    · have hI : (i : Int) < (n : Int) := by omega
      have c1 := hb.cell i h8
      have c2 := hb'.cell i h8
      rw [← hf i h8] at c2
      have e1 : IntKind.i64.wrap ((i : Int) + 1) = (i : Int) + 1 := by rw [IntKind.wrap_i64]; omega
      generalize f i = x at *
      go_wp2_with fail
      go_quiet (fail)
      go_wp2_with fail
      exact ⟨⟨i + 1, by omega, by go_num, _, rfl⟩, by simp [intOf]; omega⟩
    · have hI : ¬ (i : Int) < (n : Int) := by omega
      go_wp2_with fail
      go_ret
      exact ⟨rfl, q, rfl⟩
end Go.Proofs.YtjcgjhncdaplcabDoor
