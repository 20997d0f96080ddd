/- seal: nonceOf, New, Next, Box. -/
import Derived.Test.YtnopkojpgemldaaSeZc
set_option linter.unusedVariables false
set_option linter.unusedSimpArgs false
set_option linter.unnecessarySimpa false
namespace Go.Proofs.Ytnopkojpgemldaa
open Go.RowKit

/-- A number's nonce. -/
def ncB (N : Nat) : Nat → Nat := pl (fun _ => 0) 4 N
theorem ncB_lt (N i : Nat) : ncB N i < 256 := pl_lt (fun _ => by decide) i
theorem zeroNc : (Try.prog.info? 25).bind (·.zero) = some (.agg (yC 12 (fun _ => 0))) := by kernel_rfl
set_option maxHeartbeats 8000000 in
set_option maxRecDepth 100000 in
theorem nonceOf_s (N : Nat) (hN : U N) (w : World) : Calls Try.prog 37 #[.int .u64 (N : Int)] w fun e w' => e = .returned (.agg (yC 12 (ncB N))) ∧ Chg w w' [] := by
  have HN : Hid (U N) := hN
  clear hN
  go_enter Try.func37, Try.ntmps37
  go_wp2_with (first
    | (have _h := BR; with_reducible refine alloc_w rfl 25 rfl (.agg (yC 12 (fun _ => 0))) zeroNc (yC 12 (fun _ => 0)) rfl ?_; intro nb w2 hnb BN k2)
    | (with_reducible refine alloc_w rfl 25 rfl (.agg (yC 12 (fun _ => 0))) zeroNc (yC 12 (fun _ => 0)) rfl ?_; intro rb w1 hrb BR k1))
  have BR2 := BR.chg k2 (by simp)
  have HO : Hid (¬ nb = rb ∧ w.heap.size ≤ nb ∧ w.heap.size ≤ rb) := ⟨by have := BR.lt; omega, by have := k1.size; omega, hrb⟩
  have K2 : Chg w w2 [] := k1.trans1 k2
  clear BR k1 k2 hnb hrb
  refine (putLong_s nb 4 8 8 12 (fun _ => 0) N 25 w2 (by omega) (by omega) HN.out (by omega) BN).mono ?_
  rintro e w3 ⟨rfl, BN3, k3⟩
  replace BN3 : Blk w3 nb (yC 12 (ncB N)) 25 := BN3
  have BR3 := BR2.chg k3 (by have := HO.out; simp; omega)
  have K3 : Chg w w3 [] := K2.new k3 HO.out.2.1
  clear BR2 BN K2 k3
  go_wp2_with (first
    | (refine store_w BR3 rfl 25 _ _ (yC 12 (ncB N)) rfl rfl rfl (by rw [yC_size]; exact nonInfo) (by rw [yC_size, yC_size]) (yC_one 12 _) ?_; intro w4 BR4 k4)
    | (with_reducible refine load_b BN3 25 (.tmp 3) Try.underlying25 ?_ ?_ ?_ ?_ ?_ ?_
       · rfl
       · rfl
       · rfl
       · rfl
       · (rw [yC_size]; exact nonInfo)))
  have C : Chg w w4 [] := K3.new k4 HO.out.2.2
  exact bodyPost_ret (results_cell_row Try.results37 _ _ rb 25 (yC 12 (ncB N)) (0, 0) _ rfl BR4 Try.underlying25 rfl (by rw [yC_size]; exact nonInfo)) rfl ⟨rfl, C⟩
/-- A sealer's cells. -/
def slC (k : Nat → Nat) (nx : Nat) (m : Bool) : Array Value := yC 32 k ++ #[.int .u64 (nx : Int), .bool m]
theorem builtSl (k : Nat → Nat) (nx : Nat) : Try.prog.built 80 [(0, .agg (yC 32 k)), (1, .int .u64 (nx : Int)), (2, .bool true)] = some (slC k nx true) := by kernel_rfl
theorem slC_size (k : Nat → Nat) (nx : Nat) (m : Bool) : (slC k nx m).size = 34 := by simp [slC, yC_size]
theorem slC_32 (k : Nat → Nat) (nx : Nat) (m : Bool) : (slC k nx m)[32]? = some (.int .u64 (nx : Int)) := by
  unfold slC; rw [Array.getElem?_append_right (by rw [yC_size]; omega), yC_size]; rfl
theorem slC_33 (k : Nat → Nat) (nx : Nat) (m : Bool) : (slC k nx m)[33]? = some (.bool m) := by
  unfold slC; rw [Array.getElem?_append_right (by rw [yC_size]; omega), yC_size]; rfl
theorem slC_lo (k : Nat → Nat) (nx : Nat) (m : Bool) (i : Nat) (hi : i < 32) : (slC k nx m)[i]? = some (.int .u8 (k i)) := by
  unfold slC; rw [Array.getElem?_append_left (by rw [yC_size]; exact hi), yC_get _ _ _ hi]
theorem slC_set (k : Nat → Nat) (nx v : Nat) (m : Bool) : (slC k nx m).setIfInBounds 32 (.int .u64 (v : Int)) = slC k v m := by
  unfold slC
  rw [Array.setIfInBounds_append_right (by rw [yC_size]; omega), yC_size]
  rfl
theorem wpList_build3 {P : Program} {ops : Array Oper} {rest : List Oper} {o : Oper} {a : Act} {w : World} {Q : Exit → Act → World → Prop} (hg : o.guard = none) (t : TypeId) (i1 i2 i3 : Nat) (x1 x2 x3 : Operand) (ho : o.op = .build t #[(i1, x1), (i2, x2), (i3, x3)])
    (v1 v2 v3 : Value) (h1 : a.eval x1 = v1) (h2 : a.eval x2 = v2) (h3 : a.eval x3 = v3) (cells : Array Value) (hb : P.built t [(i1, v1), (i2, v2), (i3, v3)] = some cells) (h : wpList P ops Q rest (a.put o.dst (.agg cells)) w) : wpList P ops Q (o :: rest) a w := by
  subst h1 h2 h3
  exact wpList_build_c5 hg t _ ho cells (by simpa using hb) h
/-- A new sealer. -/
def NwQ (w : World) (k : Nat → Nat) (nx : Nat) (e : Ending) (w' : World) : Prop := ∃ y, e = .returned (.pointer (some ⟨y, 0, none⟩)) ∧ w.heap.size ≤ y ∧ Blk w' y (slC k nx true) 80 ∧ Chg w w' []
set_option maxHeartbeats 8000000 in
set_option maxRecDepth 100000 in
theorem New_s (k : Nat → Nat) (nx : Nat) (w : World) : Calls Try.prog 19 #[.agg (yC 32 k), .int .u64 (nx : Int)] w fun e w' => NwQ w k nx e w' := by
  go_enter Try.func19, Try.ntmps19
  go_wp2_with (first
    | (refine box_w rfl 80 (.tmp 7) rfl (slC k nx true) rfl ?_; intro y w2 hy BY k2)
    | (refine wpList_build3 rfl 80 0 1 2 (.tmp 5) (.tmp 6) (.const (.bool true)) rfl (.agg (yC 32 k)) (.int .u64 (nx : Int)) (.bool true) rfl rfl rfl (slC k nx true) (builtSl k nx) ?_)
    | (with_reducible refine load_b BK 23 (.tmp 2) Try.underlying23 ?_ ?_ ?_ ?_ ?_ ?_
       · rfl
       · rfl
       · rfl
       · rfl
       · (rw [yC_size]; exact keyInfo))
    | (refine box_w rfl 23 (.tmp 0) rfl (yC 32 k) rfl ?_; intro kb w1 hkb BK k1))
  go_ret
  exact ⟨y, rfl, by have := k1.size; omega, BY, k1.trans1 k2⟩
set_option maxHeartbeats 8000000 in
set_option maxRecDepth 100000 in
theorem Next_s (y nx : Nat) (k : Nat → Nat) (m : Bool) (w : World) (hb : Blk w y (slC k nx m) 80) : Calls Try.prog 20 #[.pointer (some ⟨y, 0, none⟩)] w fun e w' => e = .returned (.int .u64 (nx : Int)) ∧ w' = w := by
  have c := (hb.cell 32).trans (slC_32 k nx m)
  clear hb
  go_enter Try.func20, Try.ntmps20
  go_wp2_with fail
  go_ret
  exact ⟨rfl, rfl⟩
theorem Next_nil (w : World) : Calls Try.prog 20 #[.pointer none] w fun e w' => e = .returned (.int .u64 0) ∧ w' = w := by
  go_enter Try.func20, Try.ntmps20
  go_wp2_with fail
  go_ret
  exact ⟨rfl, rfl⟩
theorem Box_nil (v0 v1 : Value) (w : World) : Calls Try.prog 21 #[.pointer none, v0, v1] w fun e w' => e = .returned (.tuple #[.slice none 0 0, .int .i64 2]) ∧ w' = w := by
  go_enter Try.func21, Try.ntmps21
  go_wp2_with fail
  go_ret2
  exact ⟨rfl, rfl⟩
theorem Box_not (y nx : Nat) (k : Nat → Nat) (v0 v1 : Value) (w : World) (hb : Blk w y (slC k nx false) 80) : Calls Try.prog 21 #[.pointer (some ⟨y, 0, none⟩), v0, v1] w fun e w' => e = .returned (.tuple #[.slice none 0 0, .int .i64 2]) ∧ w' = w := by
  have c := (hb.cell 33).trans (slC_33 k nx false)
  clear hb
  go_enter Try.func21, Try.ntmps21
  go_wp2_with fail
  go_ret2
  exact ⟨rfl, rfl⟩
theorem Box_end (y : Nat) (k : Nat → Nat) (v0 v1 : Value) (w : World) (hb : Blk w y (slC k 18446744073709551615 true) 80) : Calls Try.prog 21 #[.pointer (some ⟨y, 0, none⟩), v0, v1] w fun e w' => e = .returned (.tuple #[.slice none 0 0, .int .i64 122]) ∧ w' = w := by
  have c := (hb.cell 33).trans (slC_33 k _ true)
  have c2 := (hb.cell 32).trans (slC_32 k 18446744073709551615 true)
  clear hb
  go_enter Try.func21, Try.ntmps21
  go_wp2_with fail
  go_ret2
  exact ⟨rfl, rfl⟩
end Go.Proofs.Ytnopkojpgemldaa
