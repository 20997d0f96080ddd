/- wire: a party, a code; the message of a refusal. -/
import Derived.Test.YtjppbngimacgnaaGreatDoorW17
import Derived.Test.YtjppbngimacgnaaGreatDoorRws
import Derived.Deep.MidRow
set_option linter.unusedVariables false
set_option linter.unusedSimpArgs false
set_option linter.unnecessarySimpa false
namespace Go.Proofs.YtjppbngimacgnaaGreatDoor
open Go.RowKit

set_option maxHeartbeats 4000000 in
set_option maxRecDepth 100000 in
theorem party_ok (r n c g o a : Nat) (F : Nat → Nat) (b : Int) (s s' : ByteArray) (hk : a + 1 ≤ n) (hn : n ≤ c) (hn2 : c ≤ 9223372036854775807) (w : World) (h : Rd w r (.slice (some ⟨g, o, none⟩) n c) (a : Int) s b) (hB : Bs w g o n F) (hgr : ¬ g = r) :
    Calls Tryz.prog 65 #[.pointer (some ⟨r, 0, none⟩), .string s'] w fun e w' => e = .returned (.int .i64 ((nm F a 1 : Nat) : Int)) ∧ Rd w' r (.slice (some ⟨g, o, none⟩) n c) ((a : Int) + ((1 : Nat) : Int)) s' (a : Int) ∧ Chg w w' [r] := by
  have hx : nm F a 1 < 256 := nm_lt F a 1 (fun j hj => hB.bd _ (by omega))
  have ew : IntKind.i64.wrap ((nm F a 1 : Nat) : Int) = ((nm F a 1 : Nat) : Int) := by rw [IntKind.wrap_i64]; omega
  have HA : Hid (a + 1 ≤ n ∧ n ≤ c ∧ c ≤ 9223372036854775807) := ⟨hk, hn, hn2⟩
  have HB : Hid (Bs w g o n F) := hB
  have HG : Hid (¬ g = r) := hgr
  have q := begin_s r _ _ b s s' w h
  have HN : Hid (∀ w', Rd w' r (.slice (some ⟨g, o, none⟩) n c) (a : Int) s' (a : Int) → Bs w' g o n F → Calls Tryz.prog 63 #[.pointer (some ⟨r, 0, none⟩), .int .i64 1] w' fun e w'' => e = .returned (.int .u32 ((nm F a 1 : Nat) : Int)) ∧ Rd w'' r (.slice (some ⟨g, o, none⟩) n c) ((a : Int) + ((1 : Nat) : Int)) s' (a : Int) ∧ Chg w' w'' [r]) :=
    fun w' h1 h2 => number_ok r n c g o a 1 F _ s' (by omega) hk hn (by omega) hn2 w' h1 h2 hgr
  obtain ⟨x, hX⟩ : ∃ x, nm F a 1 = x := ⟨_, rfl⟩
  rw [hX] at hx ew HN ⊢
  clear hk hn hn2 h hB hgr hX hx
  go_enter Tryz.func65, Tryz.ntmps65
  go_wp2_with fail
  refine q.mono ?_
  rintro e w2 ⟨rfl, h2, k2⟩
  go_wp2_with fail
  refine (HN.out w2 h2 (HB.out.chg k2 (by simp; exact HG.out))).mono ?_
  rintro e w3 ⟨rfl, h3, k3⟩
  go_wp2_with fail
  go_ret
  exact ⟨rfl, h3, k2.trans1 k3⟩
set_option maxHeartbeats 4000000 in
set_option maxRecDepth 100000 in
theorem code_ok (r n c g o a : Nat) (F : Nat → Nat) (b : Int) (s : ByteArray) (hk : a + 2 ≤ n) (hn : n ≤ c) (hn2 : c ≤ 9223372036854775807) (w : World) (h : Rd w r (.slice (some ⟨g, o, none⟩) n c) (a : Int) s b) (hB : Bs w g o n F) (hgr : ¬ g = r) (h0 : 0 < nm F a 2) :
    Calls Tryz.prog 69 #[.pointer (some ⟨r, 0, none⟩)] w fun e w' => e = .returned (.int .i64 ((nm F a 2 : Nat) : Int)) ∧ Rd w' r (.slice (some ⟨g, o, none⟩) n c) ((a : Int) + ((2 : Nat) : Int)) sCode (a : Int) ∧ Chg w w' [r] := by
  have hx : nm F a 2 < 65536 := nm_lt F a 2 (fun j hj => hB.bd _ (by omega))
  have ew : IntKind.i64.wrap ((nm F a 2 : Nat) : Int) = ((nm F a 2 : Nat) : Int) := by rw [IntKind.wrap_i64]; omega
  have e0 : ¬ ((nm F a 2 : Nat) : Int) = 0 := by omega
  have HB : Hid (Bs w g o n F) := hB
  have HG : Hid (¬ g = r) := hgr
  have q := begin_s r _ _ b s sCode w h
  have HN : Hid (∀ w', Rd w' r (.slice (some ⟨g, o, none⟩) n c) (a : Int) sCode (a : Int) → Bs w' g o n F → Calls Tryz.prog 63 #[.pointer (some ⟨r, 0, none⟩), .int .i64 2] w' fun e w'' => e = .returned (.int .u32 ((nm F a 2 : Nat) : Int)) ∧ Rd w'' r (.slice (some ⟨g, o, none⟩) n c) ((a : Int) + ((2 : Nat) : Int)) sCode (a : Int) ∧ Chg w' w'' [r]) :=
    fun w' h1 h2 => number_ok r n c g o a 2 F _ sCode (by omega) hk hn (by omega) hn2 w' h1 h2 hgr
  obtain ⟨x, hX⟩ : ∃ x, nm F a 2 = x := ⟨_, rfl⟩
  rw [hX] at hx ew e0 HN ⊢
  clear hk hn hn2 h hB hgr hX hx h0
  go_enter Tryz.func69, Tryz.ntmps69
  go_wp2_with fail
  refine q.mono ?_
  rintro e w2 ⟨rfl, h2, k2⟩
  go_wp2_with fail
  refine (HN.out w2 h2 (HB.out.chg k2 (by simp; exact HG.out))).mono ?_
  rintro e w3 ⟨rfl, h3, k3⟩
  go_wp2_with fail
  go_ret
  exact ⟨rfl, h3, k2.trans1 k3⟩
/-- A message that is all zero but for its kind. -/
def ms0 (k : Int) : Ms := { kind := k, ses := fun _ => 0, fr := 0, to := 0, id := 0, hid := fun _ => 0, bnd := fun _ => 0, list := .slice none 0 0, text := .slice none 0 0, bind := fun _ => 0, share := fun _ => 0, sig := fun _ => 0, code := 0 }
theorem zeroMsg : (Tryz.prog.info? 56).bind (·.zero) = some (.agg (msC (ms0 0))) := by kernel_rfl
theorem builtMsg (k : Int) : Tryz.prog.built 56 [(0, .int .i64 k)] = some (msC (ms0 k)) := by kernel_rfl
theorem ms_oneC (m : Ms) (h1 : m.list.oneCell' = true) (h2 : m.text.oneCell' = true) : (msC m).all (·.oneCell') = true := by
  apply all_oneCell_toArray
  intro v hv
  have hy : ∀ n f (v : Value), v ∈ yL n f → v.oneCell' = true := fun n f v hv => by
    unfold yL at hv
    simp only [List.mem_map] at hv
    obtain ⟨_, _, rfl⟩ := hv
    rfl
  unfold msL at hv
  simp only [List.mem_cons, List.mem_append, List.not_mem_nil, or_false] at hv
  rcases hv with rfl | hv | rfl | rfl | (rfl | hv | hv) | rfl | rfl | hv | hv | hv | rfl
  all_goals first | rfl | exact hy _ _ _ hv | exact h1 | exact h2
/-- A field of 32 bytes is set. -/
theorem ms_set_ses (m : Ms) (f : Nat → Nat) : setL (msC m) 1 (yL 32 f) = msC { m with ses := f } := by kernel_rfl
theorem ms_set_fr (m : Ms) (x : Int) : (msC m).setIfInBounds 33 (.int .i64 x) = msC { m with fr := x } := by kernel_rfl
theorem ms_set_to (m : Ms) (x : Int) : (msC m).setIfInBounds 34 (.int .i64 x) = msC { m with to := x } := by kernel_rfl
theorem ms_set_code (m : Ms) (x : Int) : (msC m).setIfInBounds 230 (.int .i64 x) = msC { m with code := x } := by kernel_rfl
end Go.Proofs.YtjppbngimacgnaaGreatDoor
