/- chain, invert, eighth, half: powers by chains of squares. -/
import Derived.Test.YtialljmkkichiabChain
set_option linter.unusedVariables false
set_option linter.unusedSimpArgs false
set_option linter.unnecessarySimpa false
namespace Go.Proofs.Ytialljmkkichiab
open Go.RowKit N

set_option maxHeartbeats 4000000 in
set_option maxRecDepth 100000 in
theorem chain_nm (x p q : Nat) (n : Int) (w : World) (hx : Nm w x (pw n 1)) (hp : An w p) (hq : An w q) (hxp : x ≠ p) (hxq : x ≠ q) (hpq : p ≠ q) :
    Calls Try.prog 77 #[.pointer (some ⟨x, 0, none⟩), .pointer (some ⟨p, 0, none⟩), .pointer (some ⟨q, 0, none⟩)] w fun e w' => e = .returned (.tuple #[]) ∧ Nm w' p (pw n 11) ∧ Nm w' q (pw n 1809251394333065553493296640760748560207343510400633813116524750123642650623) ∧ Chg w w' [p, q] := by
  have hxl := hx.lt; have hpl := hp.lt; have hql := hq.lt
  go_enter Try.func77, Try.ntmps77
  go_wp2_with fail
  obtain ⟨s, hs⟩ : ∃ s, s = w.heap.size := ⟨_, rfl⟩
  have hc0 : Chg w (((((((w.alloc (.cells #[.int .u64 0, .int .u64 0, .int .u64 0, .int .u64 0, .int .u64 0] 79)).alloc (.cells #[.int .u64 0, .int .u64 0, .int .u64 0, .int .u64 0, .int .u64 0] 79)).alloc (.cells #[.int .u64 0, .int .u64 0, .int .u64 0, .int .u64 0, .int .u64 0] 79)).alloc (.cells #[.int .u64 0, .int .u64 0, .int .u64 0, .int .u64 0, .int .u64 0] 79)).alloc (.cells #[.int .u64 0, .int .u64 0, .int .u64 0, .int .u64 0, .int .u64 0] 79)).alloc (.cells #[.int .u64 0, .int .u64 0, .int .u64 0, .int .u64 0, .int .u64 0] 79)).alloc (.cells #[.int .u64 0, .int .u64 0, .int .u64 0, .int .u64 0, .int .u64 0] 79)) [p, q] := (((((((Chg.refl w [p, q]).alloc (.cells #[.int .u64 0, .int .u64 0, .int .u64 0, .int .u64 0, .int .u64 0] 79)).alloc (.cells #[.int .u64 0, .int .u64 0, .int .u64 0, .int .u64 0, .int .u64 0] 79)).alloc (.cells #[.int .u64 0, .int .u64 0, .int .u64 0, .int .u64 0, .int .u64 0] 79)).alloc (.cells #[.int .u64 0, .int .u64 0, .int .u64 0, .int .u64 0, .int .u64 0] 79)).alloc (.cells #[.int .u64 0, .int .u64 0, .int .u64 0, .int .u64 0, .int .u64 0] 79)).alloc (.cells #[.int .u64 0, .int .u64 0, .int .u64 0, .int .u64 0, .int .u64 0] 79)).alloc (.cells #[.int .u64 0, .int .u64 0, .int .u64 0, .int .u64 0, .int .u64 0] 79)
  replace hx := ((((((hx.alloc (.cells #[.int .u64 0, .int .u64 0, .int .u64 0, .int .u64 0, .int .u64 0] 79)).alloc (.cells #[.int .u64 0, .int .u64 0, .int .u64 0, .int .u64 0, .int .u64 0] 79)).alloc (.cells #[.int .u64 0, .int .u64 0, .int .u64 0, .int .u64 0, .int .u64 0] 79)).alloc (.cells #[.int .u64 0, .int .u64 0, .int .u64 0, .int .u64 0, .int .u64 0] 79)).alloc (.cells #[.int .u64 0, .int .u64 0, .int .u64 0, .int .u64 0, .int .u64 0] 79)).alloc (.cells #[.int .u64 0, .int .u64 0, .int .u64 0, .int .u64 0, .int .u64 0] 79)).alloc (.cells #[.int .u64 0, .int .u64 0, .int .u64 0, .int .u64 0, .int .u64 0] 79)
  replace hp := ((((((hp.alloc (.cells #[.int .u64 0, .int .u64 0, .int .u64 0, .int .u64 0, .int .u64 0] 79)).alloc (.cells #[.int .u64 0, .int .u64 0, .int .u64 0, .int .u64 0, .int .u64 0] 79)).alloc (.cells #[.int .u64 0, .int .u64 0, .int .u64 0, .int .u64 0, .int .u64 0] 79)).alloc (.cells #[.int .u64 0, .int .u64 0, .int .u64 0, .int .u64 0, .int .u64 0] 79)).alloc (.cells #[.int .u64 0, .int .u64 0, .int .u64 0, .int .u64 0, .int .u64 0] 79)).alloc (.cells #[.int .u64 0, .int .u64 0, .int .u64 0, .int .u64 0, .int .u64 0] 79)).alloc (.cells #[.int .u64 0, .int .u64 0, .int .u64 0, .int .u64 0, .int .u64 0] 79)
  replace hq := ((((((hq.alloc (.cells #[.int .u64 0, .int .u64 0, .int .u64 0, .int .u64 0, .int .u64 0] 79)).alloc (.cells #[.int .u64 0, .int .u64 0, .int .u64 0, .int .u64 0, .int .u64 0] 79)).alloc (.cells #[.int .u64 0, .int .u64 0, .int .u64 0, .int .u64 0, .int .u64 0] 79)).alloc (.cells #[.int .u64 0, .int .u64 0, .int .u64 0, .int .u64 0, .int .u64 0] 79)).alloc (.cells #[.int .u64 0, .int .u64 0, .int .u64 0, .int .u64 0, .int .u64 0] 79)).alloc (.cells #[.int .u64 0, .int .u64 0, .int .u64 0, .int .u64 0, .int .u64 0] 79)).alloc (.cells #[.int .u64 0, .int .u64 0, .int .u64 0, .int .u64 0, .int .u64 0] 79)
  have n0 : An (((((((w.alloc (.cells #[.int .u64 0, .int .u64 0, .int .u64 0, .int .u64 0, .int .u64 0] 79)).alloc (.cells #[.int .u64 0, .int .u64 0, .int .u64 0, .int .u64 0, .int .u64 0] 79)).alloc (.cells #[.int .u64 0, .int .u64 0, .int .u64 0, .int .u64 0, .int .u64 0] 79)).alloc (.cells #[.int .u64 0, .int .u64 0, .int .u64 0, .int .u64 0, .int .u64 0] 79)).alloc (.cells #[.int .u64 0, .int .u64 0, .int .u64 0, .int .u64 0, .int .u64 0] 79)).alloc (.cells #[.int .u64 0, .int .u64 0, .int .u64 0, .int .u64 0, .int .u64 0] 79)).alloc (.cells #[.int .u64 0, .int .u64 0, .int .u64 0, .int .u64 0, .int .u64 0] 79)) (w.heap.size + 0) := by have h := (((((((An.new w).alloc (.cells #[.int .u64 0, .int .u64 0, .int .u64 0, .int .u64 0, .int .u64 0] 79)).alloc (.cells #[.int .u64 0, .int .u64 0, .int .u64 0, .int .u64 0, .int .u64 0] 79)).alloc (.cells #[.int .u64 0, .int .u64 0, .int .u64 0, .int .u64 0, .int .u64 0] 79)).alloc (.cells #[.int .u64 0, .int .u64 0, .int .u64 0, .int .u64 0, .int .u64 0] 79)).alloc (.cells #[.int .u64 0, .int .u64 0, .int .u64 0, .int .u64 0, .int .u64 0] 79)).alloc (.cells #[.int .u64 0, .int .u64 0, .int .u64 0, .int .u64 0, .int .u64 0] 79)); simpa using h
  have n1 : An (((((((w.alloc (.cells #[.int .u64 0, .int .u64 0, .int .u64 0, .int .u64 0, .int .u64 0] 79)).alloc (.cells #[.int .u64 0, .int .u64 0, .int .u64 0, .int .u64 0, .int .u64 0] 79)).alloc (.cells #[.int .u64 0, .int .u64 0, .int .u64 0, .int .u64 0, .int .u64 0] 79)).alloc (.cells #[.int .u64 0, .int .u64 0, .int .u64 0, .int .u64 0, .int .u64 0] 79)).alloc (.cells #[.int .u64 0, .int .u64 0, .int .u64 0, .int .u64 0, .int .u64 0] 79)).alloc (.cells #[.int .u64 0, .int .u64 0, .int .u64 0, .int .u64 0, .int .u64 0] 79)).alloc (.cells #[.int .u64 0, .int .u64 0, .int .u64 0, .int .u64 0, .int .u64 0] 79)) (w.heap.size + 1) := by have h := ((((((An.new (w.alloc (.cells #[.int .u64 0, .int .u64 0, .int .u64 0, .int .u64 0, .int .u64 0] 79))).alloc (.cells #[.int .u64 0, .int .u64 0, .int .u64 0, .int .u64 0, .int .u64 0] 79)).alloc (.cells #[.int .u64 0, .int .u64 0, .int .u64 0, .int .u64 0, .int .u64 0] 79)).alloc (.cells #[.int .u64 0, .int .u64 0, .int .u64 0, .int .u64 0, .int .u64 0] 79)).alloc (.cells #[.int .u64 0, .int .u64 0, .int .u64 0, .int .u64 0, .int .u64 0] 79)).alloc (.cells #[.int .u64 0, .int .u64 0, .int .u64 0, .int .u64 0, .int .u64 0] 79)); simpa using h
  have n2 : An (((((((w.alloc (.cells #[.int .u64 0, .int .u64 0, .int .u64 0, .int .u64 0, .int .u64 0] 79)).alloc (.cells #[.int .u64 0, .int .u64 0, .int .u64 0, .int .u64 0, .int .u64 0] 79)).alloc (.cells #[.int .u64 0, .int .u64 0, .int .u64 0, .int .u64 0, .int .u64 0] 79)).alloc (.cells #[.int .u64 0, .int .u64 0, .int .u64 0, .int .u64 0, .int .u64 0] 79)).alloc (.cells #[.int .u64 0, .int .u64 0, .int .u64 0, .int .u64 0, .int .u64 0] 79)).alloc (.cells #[.int .u64 0, .int .u64 0, .int .u64 0, .int .u64 0, .int .u64 0] 79)).alloc (.cells #[.int .u64 0, .int .u64 0, .int .u64 0, .int .u64 0, .int .u64 0] 79)) (w.heap.size + 2) := by have h := (((((An.new ((w.alloc (.cells #[.int .u64 0, .int .u64 0, .int .u64 0, .int .u64 0, .int .u64 0] 79)).alloc (.cells #[.int .u64 0, .int .u64 0, .int .u64 0, .int .u64 0, .int .u64 0] 79))).alloc (.cells #[.int .u64 0, .int .u64 0, .int .u64 0, .int .u64 0, .int .u64 0] 79)).alloc (.cells #[.int .u64 0, .int .u64 0, .int .u64 0, .int .u64 0, .int .u64 0] 79)).alloc (.cells #[.int .u64 0, .int .u64 0, .int .u64 0, .int .u64 0, .int .u64 0] 79)).alloc (.cells #[.int .u64 0, .int .u64 0, .int .u64 0, .int .u64 0, .int .u64 0] 79)); simpa using h
  have n3 : An (((((((w.alloc (.cells #[.int .u64 0, .int .u64 0, .int .u64 0, .int .u64 0, .int .u64 0] 79)).alloc (.cells #[.int .u64 0, .int .u64 0, .int .u64 0, .int .u64 0, .int .u64 0] 79)).alloc (.cells #[.int .u64 0, .int .u64 0, .int .u64 0, .int .u64 0, .int .u64 0] 79)).alloc (.cells #[.int .u64 0, .int .u64 0, .int .u64 0, .int .u64 0, .int .u64 0] 79)).alloc (.cells #[.int .u64 0, .int .u64 0, .int .u64 0, .int .u64 0, .int .u64 0] 79)).alloc (.cells #[.int .u64 0, .int .u64 0, .int .u64 0, .int .u64 0, .int .u64 0] 79)).alloc (.cells #[.int .u64 0, .int .u64 0, .int .u64 0, .int .u64 0, .int .u64 0] 79)) (w.heap.size + 3) := by have h := ((((An.new (((w.alloc (.cells #[.int .u64 0, .int .u64 0, .int .u64 0, .int .u64 0, .int .u64 0] 79)).alloc (.cells #[.int .u64 0, .int .u64 0, .int .u64 0, .int .u64 0, .int .u64 0] 79)).alloc (.cells #[.int .u64 0, .int .u64 0, .int .u64 0, .int .u64 0, .int .u64 0] 79))).alloc (.cells #[.int .u64 0, .int .u64 0, .int .u64 0, .int .u64 0, .int .u64 0] 79)).alloc (.cells #[.int .u64 0, .int .u64 0, .int .u64 0, .int .u64 0, .int .u64 0] 79)).alloc (.cells #[.int .u64 0, .int .u64 0, .int .u64 0, .int .u64 0, .int .u64 0] 79)); simpa using h
  have n4 : An (((((((w.alloc (.cells #[.int .u64 0, .int .u64 0, .int .u64 0, .int .u64 0, .int .u64 0] 79)).alloc (.cells #[.int .u64 0, .int .u64 0, .int .u64 0, .int .u64 0, .int .u64 0] 79)).alloc (.cells #[.int .u64 0, .int .u64 0, .int .u64 0, .int .u64 0, .int .u64 0] 79)).alloc (.cells #[.int .u64 0, .int .u64 0, .int .u64 0, .int .u64 0, .int .u64 0] 79)).alloc (.cells #[.int .u64 0, .int .u64 0, .int .u64 0, .int .u64 0, .int .u64 0] 79)).alloc (.cells #[.int .u64 0, .int .u64 0, .int .u64 0, .int .u64 0, .int .u64 0] 79)).alloc (.cells #[.int .u64 0, .int .u64 0, .int .u64 0, .int .u64 0, .int .u64 0] 79)) (w.heap.size + 4) := by have h := (((An.new ((((w.alloc (.cells #[.int .u64 0, .int .u64 0, .int .u64 0, .int .u64 0, .int .u64 0] 79)).alloc (.cells #[.int .u64 0, .int .u64 0, .int .u64 0, .int .u64 0, .int .u64 0] 79)).alloc (.cells #[.int .u64 0, .int .u64 0, .int .u64 0, .int .u64 0, .int .u64 0] 79)).alloc (.cells #[.int .u64 0, .int .u64 0, .int .u64 0, .int .u64 0, .int .u64 0] 79))).alloc (.cells #[.int .u64 0, .int .u64 0, .int .u64 0, .int .u64 0, .int .u64 0] 79)).alloc (.cells #[.int .u64 0, .int .u64 0, .int .u64 0, .int .u64 0, .int .u64 0] 79)); simpa using h
  have n5 : An (((((((w.alloc (.cells #[.int .u64 0, .int .u64 0, .int .u64 0, .int .u64 0, .int .u64 0] 79)).alloc (.cells #[.int .u64 0, .int .u64 0, .int .u64 0, .int .u64 0, .int .u64 0] 79)).alloc (.cells #[.int .u64 0, .int .u64 0, .int .u64 0, .int .u64 0, .int .u64 0] 79)).alloc (.cells #[.int .u64 0, .int .u64 0, .int .u64 0, .int .u64 0, .int .u64 0] 79)).alloc (.cells #[.int .u64 0, .int .u64 0, .int .u64 0, .int .u64 0, .int .u64 0] 79)).alloc (.cells #[.int .u64 0, .int .u64 0, .int .u64 0, .int .u64 0, .int .u64 0] 79)).alloc (.cells #[.int .u64 0, .int .u64 0, .int .u64 0, .int .u64 0, .int .u64 0] 79)) (w.heap.size + 5) := by have h := ((An.new (((((w.alloc (.cells #[.int .u64 0, .int .u64 0, .int .u64 0, .int .u64 0, .int .u64 0] 79)).alloc (.cells #[.int .u64 0, .int .u64 0, .int .u64 0, .int .u64 0, .int .u64 0] 79)).alloc (.cells #[.int .u64 0, .int .u64 0, .int .u64 0, .int .u64 0, .int .u64 0] 79)).alloc (.cells #[.int .u64 0, .int .u64 0, .int .u64 0, .int .u64 0, .int .u64 0] 79)).alloc (.cells #[.int .u64 0, .int .u64 0, .int .u64 0, .int .u64 0, .int .u64 0] 79))).alloc (.cells #[.int .u64 0, .int .u64 0, .int .u64 0, .int .u64 0, .int .u64 0] 79)); simpa using h
  have n6 : An (((((((w.alloc (.cells #[.int .u64 0, .int .u64 0, .int .u64 0, .int .u64 0, .int .u64 0] 79)).alloc (.cells #[.int .u64 0, .int .u64 0, .int .u64 0, .int .u64 0, .int .u64 0] 79)).alloc (.cells #[.int .u64 0, .int .u64 0, .int .u64 0, .int .u64 0, .int .u64 0] 79)).alloc (.cells #[.int .u64 0, .int .u64 0, .int .u64 0, .int .u64 0, .int .u64 0] 79)).alloc (.cells #[.int .u64 0, .int .u64 0, .int .u64 0, .int .u64 0, .int .u64 0] 79)).alloc (.cells #[.int .u64 0, .int .u64 0, .int .u64 0, .int .u64 0, .int .u64 0] 79)).alloc (.cells #[.int .u64 0, .int .u64 0, .int .u64 0, .int .u64 0, .int .u64 0] 79)) (w.heap.size + 6) := by have h := (An.new ((((((w.alloc (.cells #[.int .u64 0, .int .u64 0, .int .u64 0, .int .u64 0, .int .u64 0] 79)).alloc (.cells #[.int .u64 0, .int .u64 0, .int .u64 0, .int .u64 0, .int .u64 0] 79)).alloc (.cells #[.int .u64 0, .int .u64 0, .int .u64 0, .int .u64 0, .int .u64 0] 79)).alloc (.cells #[.int .u64 0, .int .u64 0, .int .u64 0, .int .u64 0, .int .u64 0] 79)).alloc (.cells #[.int .u64 0, .int .u64 0, .int .u64 0, .int .u64 0, .int .u64 0] 79)).alloc (.cells #[.int .u64 0, .int .u64 0, .int .u64 0, .int .u64 0, .int .u64 0] 79))); simpa using h
  generalize (((((((w.alloc (.cells #[.int .u64 0, .int .u64 0, .int .u64 0, .int .u64 0, .int .u64 0] 79)).alloc (.cells #[.int .u64 0, .int .u64 0, .int .u64 0, .int .u64 0, .int .u64 0] 79)).alloc (.cells #[.int .u64 0, .int .u64 0, .int .u64 0, .int .u64 0, .int .u64 0] 79)).alloc (.cells #[.int .u64 0, .int .u64 0, .int .u64 0, .int .u64 0, .int .u64 0] 79)).alloc (.cells #[.int .u64 0, .int .u64 0, .int .u64 0, .int .u64 0, .int .u64 0] 79)).alloc (.cells #[.int .u64 0, .int .u64 0, .int .u64 0, .int .u64 0, .int .u64 0] 79)).alloc (.cells #[.int .u64 0, .int .u64 0, .int .u64 0, .int .u64 0, .int .u64 0] 79)) = v0 at *
  replace hs : Hid (s = w.heap.size) := hs
  have n0' : An v0 w.heap.size := n0
  clear n0
  have n0 := n0'
  clear n0'
  clear hs
  refine (square_nm w.heap.size x (pw n 1) v0 n0 hx).mono ?_
  rintro e v1 ⟨rfl, r, k⟩
  rw [pw_mul n 1 1 2 (by decide)] at r
  replace hx := hx.chg k (by simp <;> omega)
  replace hp := hp.chg k (by simp <;> omega)
  replace hq := hq.chg k (by simp <;> omega)
  replace n1 := n1.chg k (by simp <;> omega)
  replace n2 := n2.chg k (by simp <;> omega)
  replace n3 := n3.chg k (by simp <;> omega)
  replace n4 := n4.chg k (by simp <;> omega)
  replace n5 := n5.chg k (by simp <;> omega)
  replace n6 := n6.chg k (by simp <;> omega)
  clear n0
  have r0 := r
  clear r
  have hc1 := hc0.new k (by omega)
  clear hc0 k
  go_wp2_with fail
  refine (squares_nm (w.heap.size + 1) w.heap.size (pw n 2) 2 (by decide) v1 n1 r0).mono ?_
  rintro e v2 ⟨rfl, r, k⟩
  rw [pw_pw n 2 (2 ^ 2) 8 (by decide)] at r
  replace hx := hx.chg k (by simp <;> omega)
  replace hp := hp.chg k (by simp <;> omega)
  replace hq := hq.chg k (by simp <;> omega)
  replace r0 := r0.chg k (by simp <;> omega)
  replace n2 := n2.chg k (by simp <;> omega)
  replace n3 := n3.chg k (by simp <;> omega)
  replace n4 := n4.chg k (by simp <;> omega)
  replace n5 := n5.chg k (by simp <;> omega)
  replace n6 := n6.chg k (by simp <;> omega)
  clear n1
  have r1 := r
  clear r
  have hc2 := hc1.new k (by omega)
  clear hc1 k
  go_wp2_with fail
  refine (mul_nm (w.heap.size + 1) (w.heap.size + 1) x (pw n 8) (pw n 1) v2 r1.an r1 hx).mono ?_
  rintro e v3 ⟨rfl, r, k⟩
  rw [pw_mul n 8 1 9 (by decide)] at r
  replace hx := hx.chg k (by simp <;> omega)
  replace hp := hp.chg k (by simp <;> omega)
  replace hq := hq.chg k (by simp <;> omega)
  replace r0 := r0.chg k (by simp <;> omega)
  replace n2 := n2.chg k (by simp <;> omega)
  replace n3 := n3.chg k (by simp <;> omega)
  replace n4 := n4.chg k (by simp <;> omega)
  replace n5 := n5.chg k (by simp <;> omega)
  replace n6 := n6.chg k (by simp <;> omega)
  clear r1
  have r2 := r
  clear r
  have hc3 := hc2.new k (by omega)
  clear hc2 k
  go_wp2_with fail
  refine (mul_nm p (w.heap.size + 1) w.heap.size (pw n 9) (pw n 2) v3 hp r2 r0).mono ?_
  rintro e v4 ⟨rfl, r, k⟩
  rw [pw_mul n 9 2 11 (by decide)] at r
  replace hx := hx.chg k (by simp <;> omega)
  replace hq := hq.chg k (by simp <;> omega)
  replace r0 := r0.chg k (by simp <;> omega)
  replace r2 := r2.chg k (by simp <;> omega)
  replace n2 := n2.chg k (by simp <;> omega)
  replace n3 := n3.chg k (by simp <;> omega)
  replace n4 := n4.chg k (by simp <;> omega)
  replace n5 := n5.chg k (by simp <;> omega)
  replace n6 := n6.chg k (by simp <;> omega)
  clear hp
  have r3 := r
  clear r
  have hc4 := hc3.trans k (fun i hi => by simp at hi; subst hi; exact Or.inl (by simp))
  clear hc3 k
  go_wp2_with fail
  refine (square_nm (w.heap.size + 2) p (pw n 11) v4 n2 r3).mono ?_
  rintro e v5 ⟨rfl, r, k⟩
  rw [pw_mul n 11 11 22 (by decide)] at r
  replace hx := hx.chg k (by simp <;> omega)
  replace r3 := r3.chg k (by simp <;> omega)
  replace hq := hq.chg k (by simp <;> omega)
  replace r0 := r0.chg k (by simp <;> omega)
  replace r2 := r2.chg k (by simp <;> omega)
  replace n3 := n3.chg k (by simp <;> omega)
  replace n4 := n4.chg k (by simp <;> omega)
  replace n5 := n5.chg k (by simp <;> omega)
  replace n6 := n6.chg k (by simp <;> omega)
  clear n2
  have r4 := r
  clear r
  have hc5 := hc4.new k (by omega)
  clear hc4 k
  go_wp2_with fail
  refine (mul_nm (w.heap.size + 2) (w.heap.size + 2) (w.heap.size + 1) (pw n 22) (pw n 9) v5 r4.an r4 r2).mono ?_
  rintro e v6 ⟨rfl, r, k⟩
  rw [pw_mul n 22 9 31 (by decide)] at r
  replace hx := hx.chg k (by simp <;> omega)
  replace r3 := r3.chg k (by simp <;> omega)
  replace hq := hq.chg k (by simp <;> omega)
  replace r0 := r0.chg k (by simp <;> omega)
  replace r2 := r2.chg k (by simp <;> omega)
  replace n3 := n3.chg k (by simp <;> omega)
  replace n4 := n4.chg k (by simp <;> omega)
  replace n5 := n5.chg k (by simp <;> omega)
  replace n6 := n6.chg k (by simp <;> omega)
  clear r4
  have r5 := r
  clear r
  have hc6 := hc5.new k (by omega)
  clear hc5 k
  go_wp2_with fail
  refine (grow_nm (w.heap.size + 3) (w.heap.size + 2) (w.heap.size + 2) (pw n 31) (pw n 31) 5 (by decide) v6 n3 r5 r5).mono ?_
  rintro e v7 ⟨rfl, r, k⟩
  rw [pw_pw n 31 (2 ^ 5) 992 (by decide +kernel), pw_mul n 992 31 1023 (by decide +kernel)] at r
  replace hx := hx.chg k (by simp <;> omega)
  replace r3 := r3.chg k (by simp <;> omega)
  replace hq := hq.chg k (by simp <;> omega)
  replace r0 := r0.chg k (by simp <;> omega)
  replace r2 := r2.chg k (by simp <;> omega)
  replace r5 := r5.chg k (by simp <;> omega)
  replace n4 := n4.chg k (by simp <;> omega)
  replace n5 := n5.chg k (by simp <;> omega)
  replace n6 := n6.chg k (by simp <;> omega)
  clear n3
  have r6 := r
  clear r
  have hc7 := hc6.new k (by omega)
  clear hc6 k
  go_wp2_with fail
  refine (grow_nm (w.heap.size + 4) (w.heap.size + 3) (w.heap.size + 3) (pw n 1023) (pw n 1023) 10 (by decide) v7 n4 r6 r6).mono ?_
  rintro e v8 ⟨rfl, r, k⟩
  rw [pw_pw n 1023 (2 ^ 10) 1047552 (by decide +kernel), pw_mul n 1047552 1023 1048575 (by decide +kernel)] at r
  replace hx := hx.chg k (by simp <;> omega)
  replace r3 := r3.chg k (by simp <;> omega)
  replace hq := hq.chg k (by simp <;> omega)
  replace r0 := r0.chg k (by simp <;> omega)
  replace r2 := r2.chg k (by simp <;> omega)
  replace r5 := r5.chg k (by simp <;> omega)
  replace r6 := r6.chg k (by simp <;> omega)
  replace n5 := n5.chg k (by simp <;> omega)
  replace n6 := n6.chg k (by simp <;> omega)
  clear n4
  have r7 := r
  clear r
  have hc8 := hc7.new k (by omega)
  clear hc7 k
  go_wp2_with fail
  refine (grow_nm q (w.heap.size + 4) (w.heap.size + 4) (pw n 1048575) (pw n 1048575) 20 (by decide) v8 hq r7 r7).mono ?_
  rintro e v9 ⟨rfl, r, k⟩
  rw [pw_pw n 1048575 (2 ^ 20) 1099510579200 (by decide +kernel), pw_mul n 1099510579200 1048575 1099511627775 (by decide +kernel)] at r
  replace hx := hx.chg k (by simp <;> omega)
  replace r3 := r3.chg k (by simp <;> omega)
  replace r0 := r0.chg k (by simp <;> omega)
  replace r2 := r2.chg k (by simp <;> omega)
  replace r5 := r5.chg k (by simp <;> omega)
  replace r6 := r6.chg k (by simp <;> omega)
  replace r7 := r7.chg k (by simp <;> omega)
  replace n5 := n5.chg k (by simp <;> omega)
  replace n6 := n6.chg k (by simp <;> omega)
  clear hq
  have r8 := r
  clear r
  have hc9 := hc8.trans k (fun i hi => by simp at hi; subst hi; exact Or.inl (by simp))
  clear hc8 k
  go_wp2_with fail
  refine (grow_nm (w.heap.size + 5) q (w.heap.size + 3) (pw n 1099511627775) (pw n 1023) 10 (by decide) v9 n5 r8 r6).mono ?_
  rintro e v10 ⟨rfl, r, k⟩
  rw [pw_pw n 1099511627775 (2 ^ 10) 1125899906841600 (by decide +kernel), pw_mul n 1125899906841600 1023 1125899906842623 (by decide +kernel)] at r
  replace hx := hx.chg k (by simp <;> omega)
  replace r3 := r3.chg k (by simp <;> omega)
  replace r8 := r8.chg k (by simp <;> omega)
  replace r0 := r0.chg k (by simp <;> omega)
  replace r2 := r2.chg k (by simp <;> omega)
  replace r5 := r5.chg k (by simp <;> omega)
  replace r6 := r6.chg k (by simp <;> omega)
  replace r7 := r7.chg k (by simp <;> omega)
  replace n6 := n6.chg k (by simp <;> omega)
  clear n5
  have r9 := r
  clear r
  have hc10 := hc9.new k (by omega)
  clear hc9 k
  go_wp2_with fail
  refine (grow_nm (w.heap.size + 6) (w.heap.size + 5) (w.heap.size + 5) (pw n 1125899906842623) (pw n 1125899906842623) 50 (by decide) v10 n6 r9 r9).mono ?_
  rintro e v11 ⟨rfl, r, k⟩
  rw [pw_pw n 1125899906842623 (2 ^ 50) 1267650600228228275596796362752 (by decide +kernel), pw_mul n 1267650600228228275596796362752 1125899906842623 1267650600228229401496703205375 (by decide +kernel)] at r
  replace hx := hx.chg k (by simp <;> omega)
  replace r3 := r3.chg k (by simp <;> omega)
  replace r8 := r8.chg k (by simp <;> omega)
  replace r0 := r0.chg k (by simp <;> omega)
  replace r2 := r2.chg k (by simp <;> omega)
  replace r5 := r5.chg k (by simp <;> omega)
  replace r6 := r6.chg k (by simp <;> omega)
  replace r7 := r7.chg k (by simp <;> omega)
  replace r9 := r9.chg k (by simp <;> omega)
  clear n6
  have r10 := r
  clear r
  have hc11 := hc10.new k (by omega)
  clear hc10 k
  go_wp2_with fail
  refine (grow_nm q (w.heap.size + 6) (w.heap.size + 6) (pw n 1267650600228229401496703205375) (pw n 1267650600228229401496703205375) 100 (by decide) v11 r8.an r10 r10).mono ?_
  rintro e v12 ⟨rfl, r, k⟩
  rw [pw_pw n 1267650600228229401496703205375 (2 ^ 100) 1606938044258990275541962092339894951921974764381296132096000 (by decide +kernel), pw_mul n 1606938044258990275541962092339894951921974764381296132096000 1267650600228229401496703205375 1606938044258990275541962092341162602522202993782792835301375 (by decide +kernel)] at r
  replace hx := hx.chg k (by simp <;> omega)
  replace r3 := r3.chg k (by simp <;> omega)
  replace r0 := r0.chg k (by simp <;> omega)
  replace r2 := r2.chg k (by simp <;> omega)
  replace r5 := r5.chg k (by simp <;> omega)
  replace r6 := r6.chg k (by simp <;> omega)
  replace r7 := r7.chg k (by simp <;> omega)
  replace r9 := r9.chg k (by simp <;> omega)
  replace r10 := r10.chg k (by simp <;> omega)
  clear r8
  have r11 := r
  clear r
  have hc12 := hc11.trans k (fun i hi => by simp at hi; subst hi; exact Or.inl (by simp))
  clear hc11 k
  go_wp2_with fail
  refine (grow_nm q q (w.heap.size + 5) (pw n 1606938044258990275541962092341162602522202993782792835301375) (pw n 1125899906842623) 50 (by decide) v12 r11.an r11 r9).mono ?_
  rintro e v13 ⟨rfl, r, k⟩
  rw [pw_pw n 1606938044258990275541962092341162602522202993782792835301375 (2 ^ 50) 1809251394333065553493296640760748560207343510400633813116523624223735808000 (by decide +kernel), pw_mul n 1809251394333065553493296640760748560207343510400633813116523624223735808000 1125899906842623 1809251394333065553493296640760748560207343510400633813116524750123642650623 (by decide +kernel)] at r
  replace hx := hx.chg k (by simp <;> omega)
  replace r3 := r3.chg k (by simp <;> omega)
  replace r0 := r0.chg k (by simp <;> omega)
  replace r2 := r2.chg k (by simp <;> omega)
  replace r5 := r5.chg k (by simp <;> omega)
  replace r6 := r6.chg k (by simp <;> omega)
  replace r7 := r7.chg k (by simp <;> omega)
  replace r9 := r9.chg k (by simp <;> omega)
  replace r10 := r10.chg k (by simp <;> omega)
  clear r11
  have r12 := r
  clear r
  have hc13 := hc12.trans k (fun i hi => by simp at hi; subst hi; exact Or.inl (by simp))
  clear hc12 k
  go_wp2
  go_end0
  exact ⟨rfl, r3, r12, hc13⟩

set_option maxHeartbeats 4000000 in
set_option maxRecDepth 100000 in
/-- invert, eighth: the two that go by chain. -/
theorem invert_nm (z x : Nat) (n : Int) (w : World) (hz : An w z) (hx : Nm w x (pw n 1)) :
    Calls Try.prog 42 #[.pointer (some ⟨z, 0, none⟩), .pointer (some ⟨x, 0, none⟩)] w fun e w' => e = .returned (.tuple #[]) ∧ Nm w' z (pw n 57896044618658097711785492504343953926634992332820282019728792003956564819947) ∧ Chg w w' [z] := by
  have hzl := hz.lt; have hxl := hx.lt
  go_enter Try.func42, Try.ntmps42
  go_wp2_with fail
  have e1 : An ((w.alloc (.cells #[.int .u64 0, .int .u64 0, .int .u64 0, .int .u64 0, .int .u64 0] 79)).alloc (.cells #[.int .u64 0, .int .u64 0, .int .u64 0, .int .u64 0, .int .u64 0] 79)) w.heap.size := (An.new w).alloc _
  have e2 : An ((w.alloc (.cells #[.int .u64 0, .int .u64 0, .int .u64 0, .int .u64 0, .int .u64 0] 79)).alloc (.cells #[.int .u64 0, .int .u64 0, .int .u64 0, .int .u64 0, .int .u64 0] 79)) (w.heap.size + 1) := by have h := An.new (w.alloc (.cells #[.int .u64 0, .int .u64 0, .int .u64 0, .int .u64 0, .int .u64 0] 79)); simpa using h
  refine (chain_nm x w.heap.size (w.heap.size + 1) n _ ((hx.alloc _).alloc _) e1 e2 (by omega) (by omega) (by omega)).mono ?_
  rintro e w1 ⟨rfl, r1, r2, k⟩
  go_wp2_with fail
  refine (grow_nm z (w.heap.size + 1) w.heap.size _ _ 5 (by decide) w1 (((hz.alloc _).alloc _).chg k (by simp <;> omega)) r2 r1).mono ?_
  rintro e w2 ⟨rfl, r, k2⟩
  rw [pw_pw n 1809251394333065553493296640760748560207343510400633813116524750123642650623 (2 ^ 5) 57896044618658097711785492504343953926634992332820282019728792003956564819936 (by decide +kernel), pw_mul n 57896044618658097711785492504343953926634992332820282019728792003956564819936 11 57896044618658097711785492504343953926634992332820282019728792003956564819947 (by decide +kernel)] at r
  go_wp2
  go_end0
  exact ⟨rfl, r, ((((Chg.refl w [z]).alloc _).alloc _).trans k (fun i hi => by simp at hi; rcases hi with rfl | rfl <;> exact Or.inr (by omega))).trans1 k2⟩

set_option maxHeartbeats 4000000 in
set_option maxRecDepth 100000 in
theorem eighth_nm (z x : Nat) (n : Int) (w : World) (hz : An w z) (hx : Nm w x (pw n 1)) :
    Calls Try.prog 79 #[.pointer (some ⟨z, 0, none⟩), .pointer (some ⟨x, 0, none⟩)] w fun e w' => e = .returned (.tuple #[]) ∧ Nm w' z (pw n 7237005577332262213973186563042994240829374041602535252466099000494570602493) ∧ Chg w w' [z] := by
  have hzl := hz.lt; have hxl := hx.lt
  go_enter Try.func79, Try.ntmps79
  go_wp2_with fail
  have e1 : An ((w.alloc (.cells #[.int .u64 0, .int .u64 0, .int .u64 0, .int .u64 0, .int .u64 0] 79)).alloc (.cells #[.int .u64 0, .int .u64 0, .int .u64 0, .int .u64 0, .int .u64 0] 79)) w.heap.size := (An.new w).alloc _
  have e2 : An ((w.alloc (.cells #[.int .u64 0, .int .u64 0, .int .u64 0, .int .u64 0, .int .u64 0] 79)).alloc (.cells #[.int .u64 0, .int .u64 0, .int .u64 0, .int .u64 0, .int .u64 0] 79)) (w.heap.size + 1) := by have h := An.new (w.alloc (.cells #[.int .u64 0, .int .u64 0, .int .u64 0, .int .u64 0, .int .u64 0] 79)); simpa using h
  refine (chain_nm x w.heap.size (w.heap.size + 1) n _ ((hx.alloc _).alloc _) e1 e2 (by omega) (by omega) (by omega)).mono ?_
  rintro e w1 ⟨rfl, r1, r2, k⟩
  go_wp2_with fail
  refine (grow_nm z (w.heap.size + 1) x _ _ 2 (by decide) w1 (((hz.alloc _).alloc _).chg k (by simp <;> omega)) r2 (((hx.alloc _).alloc _).chg k (by simp <;> omega))).mono ?_
  rintro e w2 ⟨rfl, r, k2⟩
  rw [pw_pw n 1809251394333065553493296640760748560207343510400633813116524750123642650623 (2 ^ 2) 7237005577332262213973186563042994240829374041602535252466099000494570602492 (by decide +kernel), pw_mul n 7237005577332262213973186563042994240829374041602535252466099000494570602492 1 7237005577332262213973186563042994240829374041602535252466099000494570602493 (by decide +kernel)] at r
  go_wp2
  go_end0
  exact ⟨rfl, r, ((((Chg.refl w [z]).alloc _).alloc _).trans k (fun i hi => by simp at hi; rcases hi with rfl | rfl <;> exact Or.inr (by omega))).trans1 k2⟩

set_option maxHeartbeats 4000000 in
set_option maxRecDepth 100000 in
theorem half_nm (z x : Nat) (n : Int) (w : World) (hz : An w z) (hx : Nm w x (pw n 1)) :
    Calls Try.prog 44 #[.pointer (some ⟨z, 0, none⟩), .pointer (some ⟨x, 0, none⟩)] w fun e w' => e = .returned (.tuple #[]) ∧ Nm w' z (pw n 28948022309329048855892746252171976963317496166410141009864396001978282409974) ∧ Chg w w' [z] := by
  have hzl := hz.lt; have hxl := hx.lt
  go_enter Try.func44, Try.ntmps44
  go_wp2_with fail
  have e1 : An ((w.alloc (.cells #[.int .u64 0, .int .u64 0, .int .u64 0, .int .u64 0, .int .u64 0] 79)).alloc (.cells #[.int .u64 0, .int .u64 0, .int .u64 0, .int .u64 0, .int .u64 0] 79)) w.heap.size := (An.new w).alloc _
  have e2 : An ((w.alloc (.cells #[.int .u64 0, .int .u64 0, .int .u64 0, .int .u64 0, .int .u64 0] 79)).alloc (.cells #[.int .u64 0, .int .u64 0, .int .u64 0, .int .u64 0, .int .u64 0] 79)) (w.heap.size + 1) := by have h := An.new (w.alloc (.cells #[.int .u64 0, .int .u64 0, .int .u64 0, .int .u64 0, .int .u64 0] 79)); simpa using h
  refine (eighth_nm w.heap.size x n _ e1 ((hx.alloc _).alloc _)).mono ?_
  rintro e w1 ⟨rfl, r1, k1⟩
  have x1 := ((hx.alloc (.cells #[.int .u64 0, .int .u64 0, .int .u64 0, .int .u64 0, .int .u64 0] 79)).alloc (.cells #[.int .u64 0, .int .u64 0, .int .u64 0, .int .u64 0, .int .u64 0] 79)).chg k1 (by simp <;> omega)
  have z1 := ((hz.alloc (.cells #[.int .u64 0, .int .u64 0, .int .u64 0, .int .u64 0, .int .u64 0] 79)).alloc (.cells #[.int .u64 0, .int .u64 0, .int .u64 0, .int .u64 0, .int .u64 0] 79)).chg k1 (by simp <;> omega)
  have a1 := e2.chg k1 (by simp)
  go_wp2_with fail
  refine (square_nm (w.heap.size + 1) x (pw n 1) w1 a1 x1).mono ?_
  rintro e w2 ⟨rfl, r2, k2⟩
  rw [pw_mul n 1 1 2 (by decide)] at r2
  go_wp2_with fail
  refine (grow_nm z w.heap.size (w.heap.size + 1) _ _ 2 (by decide) w2 (z1.chg k2 (by simp <;> omega)) (r1.chg k2 (by simp)) r2).mono ?_
  rintro e w3 ⟨rfl, r, k3⟩
  rw [pw_pw n 7237005577332262213973186563042994240829374041602535252466099000494570602493 (2 ^ 2) 28948022309329048855892746252171976963317496166410141009864396001978282409972 (by decide +kernel), pw_mul n 28948022309329048855892746252171976963317496166410141009864396001978282409972 2 28948022309329048855892746252171976963317496166410141009864396001978282409974 (by decide +kernel)] at r
  go_wp2
  go_end0
  exact ⟨rfl, r, (((((Chg.refl w [z]).alloc _).alloc _).new k1 (Nat.le_refl _)).new k2 (by omega)).trans1 k3⟩
end Go.Proofs.Ytialljmkkichiab
