/- wire: the reader. -/
import Derived.Test.YtjppbngimacgnaaGreatDoorW12
set_option linter.unusedVariables false
set_option linter.unusedSimpArgs false
set_option linter.unnecessarySimpa false
namespace Go.Proofs.YtjppbngimacgnaaGreatDoor
open Go.RowKit

/-- A reader in block r: its bytes v, its place, the field and where it began. -/
def Rd (w : World) (r : Nat) (v : Value) (a : Int) (s : ByteArray) (b : Int) : Prop := Blk w r #[v, .int .i64 a, .string s, .int .i64 b] 110
theorem Rd.chg {w w' : World} {r : Nat} {v : Value} {a : Int} {s : ByteArray} {b : Int} {l : List Nat} (h : Rd w r v a s b) (hc : Chg w w' l) (hl : ¬ r ∈ l) : Rd w' r v a s b := Blk.chg h hc hl
theorem Rd.c0 {w : World} {r : Nat} {v : Value} {a : Int} {s : ByteArray} {b : Int} (h : Rd w r v a s b) : w.cell? ⟨r, 0, none⟩ = some v := by rw [Blk.cell h]; rfl
theorem Rd.c1 {w : World} {r : Nat} {v : Value} {a : Int} {s : ByteArray} {b : Int} (h : Rd w r v a s b) : w.cell? ⟨r, 1, none⟩ = some (.int .i64 a) := by rw [Blk.cell h]; rfl
theorem Rd.c2 {w : World} {r : Nat} {v : Value} {a : Int} {s : ByteArray} {b : Int} (h : Rd w r v a s b) : w.cell? ⟨r, 2, none⟩ = some (.string s) := by rw [Blk.cell h]; rfl
theorem Rd.c3 {w : World} {r : Nat} {v : Value} {a : Int} {s : ByteArray} {b : Int} (h : Rd w r v a s b) : w.cell? ⟨r, 3, none⟩ = some (.int .i64 b) := by rw [Blk.cell h]; rfl
set_option maxHeartbeats 4000000 in
set_option maxRecDepth 100000 in
theorem begin_s (r : Nat) (v : Value) (a b : Int) (s s' : ByteArray) (w : World) (h : Rd w r v a s b) : Calls Tryz.prog 80 #[.pointer (some ⟨r, 0, none⟩), .string s'] w fun e w' => e = .returned (.tuple #[]) ∧ Rd w' r v a s' a ∧ Chg w w' [r] := by
  have c0 := h.c0
  have c1 := h.c1
  have c2 := h.c2
  have c3 := h.c3
  have f2 := Blk.frozen h 2
  have f3 := Blk.frozen h 3
  have H2 := (Blk.setCell h 2 (.string s')).setCell 3 (.int .i64 a)
  have K2 : Chg w ((w.setCell ⟨r, 2, none⟩ (.string s')).setCell ⟨r, 3, none⟩ (.int .i64 a)) [r] := ((Chg.refl w [r]).setIn (by simp) 2 _).setIn (by simp) 3 _
  clear h
  go_enter Tryz.func80, Tryz.ntmps80
  go_wp2_with fail
  go_end0
  exact ⟨rfl, H2, K2⟩
set_option maxHeartbeats 4000000 in
set_option maxRecDepth 100000 in
theorem take_ok (r n c g o a k : Nat) (b : Int) (s : ByteArray) (hk : a + k ≤ n) (hn : n ≤ c) (hac : a < c) (hn2 : c ≤ 9223372036854775807) (w : World) (h : Rd w r (.slice (some ⟨g, o, none⟩) n c) (a : Int) s b) :
    Calls Tryz.prog 62 #[.pointer (some ⟨r, 0, none⟩), .int .i64 (k : Int)] w fun e w' => e = .returned (.slice (some ⟨g, o + a, none⟩) k (c - a)) ∧ Rd w' r (.slice (some ⟨g, o, none⟩) n c) ((a : Int) + (k : Int)) s b ∧ Chg w w' [r] := by
  have c0 := h.c0
  have c1 := h.c1
  have f1 := Blk.frozen h 1
  have e1 : IntKind.i64.wrap ((n : Int) - (a : Int)) = (n : Int) - (a : Int) := by rw [IntKind.wrap_i64]; omega
  have e2' : ¬ (n : Int) - (a : Int) < (k : Int) := by omega
  obtain ⟨q, hq⟩ : ∃ q : Nat, a + k = q := ⟨_, rfl⟩
  have e3 : IntKind.i64.wrap ((a : Int) + (k : Int)) = (q : Int) := by rw [IntKind.wrap_i64]; omega
  have eq : (a : Int) + (k : Int) = (q : Int) := by omega
  rw [eq]
  have HA : Hid (a + k ≤ n ∧ n ≤ c ∧ a < c ∧ c ≤ 9223372036854775807 ∧ a + k = q) := ⟨hk, hn, hac, hn2, hq⟩
  have HR : Hid (Rd w r (.slice (some ⟨g, o, none⟩) n c) (a : Int) s b) := h
  clear hk hn hac hn2 h hq eq
  go_enter Tryz.func62, Tryz.ntmps62
  go_wp2_with fail
  go_quiet (fail)
  go_wp2_with fail
  have h2 : Rd ((w.drewN nq).setCell ⟨r, 1, none⟩ (.int .i64 (q : Int))) r (.slice (some ⟨g, o, none⟩) n c) (q : Int) s b := (Blk.drewN HR.out nq).setCell 1 _
  have K2 : Chg w ((w.drewN nq).setCell ⟨r, 1, none⟩ (.int .i64 (q : Int))) [r] := ((Chg.refl w [r]).drewN nq).setIn (by simp) 1 _
  generalize ((w.drewN nq).setCell ⟨r, 1, none⟩ (.int .i64 (q : Int))) = W at *
  clear c0 c1 f1
  have d0 := h2.c0
  have d1 := h2.c1
  have e4 : IntKind.i64.wrap ((q : Int) - (k : Int)) = (a : Int) := by have := HA.out; rw [IntKind.wrap_i64]; omega
  have l1 : (0 : Int) ≤ (a : Int) := by omega
  have l2 : (a : Int) ≤ (q : Int) := by have := HA.out; omega
  have l3 : (q : Int) ≤ (c : Int) := by have := HA.out; omega
  have l4 : q - a = k := by have := HA.out; omega
  have l6 : ¬ c - a = 0 := by have := HA.out; omega
  have l7 : ¬ c = a := by have := HA.out; omega
  have l8 : (0 : Int) ≤ (q : Int) := by omega
  go_quiet (fail)
  go_wp2_with fail
  go_ret
  exact ⟨rfl, Blk.drewN h2 _, K2.drewN _⟩
end Go.Proofs.YtjppbngimacgnaaGreatDoor
