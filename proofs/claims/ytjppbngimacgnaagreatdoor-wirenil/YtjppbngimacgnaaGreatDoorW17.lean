/- wire: numbers read. -/
import Derived.Test.YtjppbngimacgnaaGreatDoorW16
set_option linter.unusedVariables false
set_option linter.unusedSimpArgs false
set_option linter.unnecessarySimpa false
namespace Go.Proofs.YtjppbngimacgnaaGreatDoor
open Go.RowKit

/-- The number of the first i bytes, the highest first. -/
def nm (F : Nat → Nat) (a : Nat) : Nat → Nat
  | 0 => 0
  | i + 1 => nm F a i * 256 + F (a + i)
theorem nm_lt (F : Nat → Nat) (a : Nat) : ∀ i, (∀ j, j < i → F (a + j) < 256) → nm F a i < 256 ^ i
  | 0, _ => by unfold nm; decide
  | i + 1, h => by
    have := nm_lt F a i (fun j hj => h j (by omega))
    have := h i (by omega)
    unfold nm
    rw [Nat.pow_succ]
    omega
theorem or8 (x b : Nat) (hx : x < 16777216) (hb : b < 256) : bits .or .u32 ((x : Int) * 256 % 4294967296) (b : Int) = ((x * 256 + b : Nat) : Int) := by
  have e : ((x : Int) * 256 % 4294967296) = ((x * 256 : Nat) : Int) := by omega
  rw [e, u32_or_nat (x * 256) b (by omega) (by omega), nat_join 8 (x * 256) b (by omega) (by omega)]
set_option maxHeartbeats 4000000 in
set_option maxRecDepth 100000 in
theorem number_ok (r n c g o a k : Nat) (F : Nat → Nat) (b : Int) (s : ByteArray) (hk4 : k ≤ 4) (hk : a + k ≤ n) (hn : n ≤ c) (hac : a < c) (hn2 : c ≤ 9223372036854775807) (w : World) (h : Rd w r (.slice (some ⟨g, o, none⟩) n c) (a : Int) s b) (hB : Bs w g o n F) (hgr : ¬ g = r) :
    Calls Tryz.prog 63 #[.pointer (some ⟨r, 0, none⟩), .int .i64 (k : Int)] w fun e w' => e = .returned (.int .u32 ((nm F a k : Nat) : Int)) ∧ Rd w' r (.slice (some ⟨g, o, none⟩) n c) ((a : Int) + (k : Int)) s b ∧ Chg w w' [r] := by
  have HA : Hid (k ≤ 4 ∧ a + k ≤ n ∧ n ≤ c ∧ a < c ∧ c ≤ 9223372036854775807) := ⟨hk4, hk, hn, hac, hn2⟩
  have HR : Hid (Rd w r (.slice (some ⟨g, o, none⟩) n c) (a : Int) s b) := h
  have HB : Hid (Bs w g o n F) := hB
  have HG : Hid (¬ g = r) := hgr
  clear hk hn hn2 h hB hgr hk4 hac
  go_enter Tryz.func63, Tryz.ntmps63
  go_wp2_with fail
  refine (take_ok r n c g o a k _ _ HA.out.2.1 HA.out.2.2.1 HA.out.2.2.2.1 HA.out.2.2.2.2 w HR.out).mono ?_
  rintro e w3 ⟨rfl, h3, k3⟩
  have B3 := (HB.out.chg k3 (by simp; exact HG.out)).sub a k HA.out.2.1
  go_wp2_with fail
  --CUT0
  go_loopw [5, 12] (fun t5 t12 wr => ∃ i : Nat, i ≤ k ∧ t12 = .int .i64 (i : Int) ∧ t5 = .int .u32 ((nm F a i : Nat) : Int) ∧ wr = w3) (fun _ t _ => ((k : Int) - intOf t).toNat)
  case atStart => exact ⟨0, by omega, rfl, rfl, rfl⟩
  case round =>
    obtain ⟨i, hi, rfl, rfl, rfl⟩ := hrel
    by_cases h8 : i = k
    · subst h8
      have hI : ¬ (i : Int) < (i : Int) := by omega
      go_wp2_with fail
      go_ret
      exact ⟨rfl, h3, k3⟩
    · have hlt : i < k := by omega
      have hI : (i : Int) < (k : Int) := by omega
      have hi0 : (0 : Int) ≤ (i : Int) := by omega
      have ew : IntKind.i64.wrap ((i : Int) + 1) = (i : Int) + 1 := by have := HA.out; rw [IntKind.wrap_i64]; omega
      have cb := B3.cell i hlt
      have hb := B3.bd i hlt
      go_wp2_with fail
      have hx : nm F a i < 16777216 := by
        have q := nm_lt F a i (fun j hj => B3.bd j (by omega))
        have : 256 ^ i ≤ 256 ^ 3 := Nat.pow_le_pow_right (by omega) (by have := HA.out; omega)
        omega
      refine ⟨⟨i + 1, hlt, by go_num, ?_, trivial⟩, by simp [intOf]; omega⟩
      rw [or8 _ _ hx hb]
      rfl
end Go.Proofs.YtjppbngimacgnaaGreatDoor
