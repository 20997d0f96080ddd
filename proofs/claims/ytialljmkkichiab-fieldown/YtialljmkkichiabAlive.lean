/- The small example that every law begins with: alive answers true. -/
import Derived.Test.YtialljmkkichiabFun5
import Derived.Test.YtialljmkkichiabNum
set_option linter.unusedVariables false
set_option linter.unusedSimpArgs false
set_option linter.unnecessarySimpa false
namespace Go.Proofs.Ytialljmkkichiab
open Go.RowKit N

theorem gl_load {P : Program} {ops : Array Oper} {rest : List Oper} {o : Oper} {a : Act} {w : World} {Q : Exit → Act → World → Prop} (hw : Region.wanted o (yielded ops a.tmps) = true) (ty : TypeId) (x : Operand) (ho : o.op = .load ty x)
    (g : Nat) (hx : a.eval x = .pointer (some ⟨g, 0, none⟩)) (t : TypeId) (cs : Array Value) (d : TypeDesc) (hg : Blk w g cs t)
    (hu : P.underlying ty = some d) (hd : (match d with | .struct _ | .array _ _ => true | _ => false) = true) (hi : (P.info? ty).map (·.size) = some cs.size)
    (h : wpList P ops Q rest (a.put o.dst (.agg cs)) w) : wpList P ops Q (o :: rest) a w := by
  unfold wpList
  rw [if_pos hw]
  exact Or.inl (wp_load_row ty x ho g hx t cs (0, 0) d hg hu hd hi h)
theorem gl_build {P : Program} {ops : Array Oper} {rest : List Oper} {o : Oper} {a : Act} {w : World} {Q : Exit → Act → World → Prop} (hw : Region.wanted o (yielded ops a.tmps) = true) (t : TypeId) (parts : Array (Nat × Operand)) (ho : o.op = .build t parts)
    (cells : Array Value) (hb : P.built t (parts.map fun (i, x) => (i, a.eval x)).toList = some cells) (h : wpList P ops Q rest (a.put o.dst (.agg cells)) w) : wpList P ops Q (o :: rest) a w := by
  unfold wpList
  rw [if_pos hw]
  exact Or.inl (wp_build t parts ho (by rw [hb]; rfl) (by rw [hb]; exact h))

/-- P as a natural number; powers reckoned by squaring. -/
def PN : Nat := 57896044618658097711785492504343953926634992332820282019728792003956564819949
theorem PN_eq : (PN : Int) = P := by unfold PN P; rfl
theorem pw_pm (a k f : Nat) (h : k < 2 ^ f) : pw (a : Int) k = ((pm f a k PN : Nat) : Int) := by
  unfold pw
  rw [pm_eq f a k PN h, ← PN_eq, Int.natCast_emod, Int.natCast_pow]
theorem pw4 : pw 4 7237005577332262213973186563042994240829374041602535252466099000494570602493 = 9840580688353752978403539652494271007723033257961945081372010536561914892376 := (pw_pm 4 7237005577332262213973186563042994240829374041602535252466099000494570602493 256 (by decide +kernel)).trans (by decide +kernel)
theorem pw2 : pw 2 28948022309329048855892746252171976963317496166410141009864396001978282409974 = 57896044618658097711785492504343953926634992332820282019728792003956564819948 := (pw_pm 2 28948022309329048855892746252171976963317496166410141009864396001978282409974 256 (by decide +kernel)).trans (by decide +kernel)
theorem rc41 : rc 4 1 = 39362322753415011913614158609977084030892133031847780325488042146247659569504 := by
  have h : (4 : Int) * 1 ^ 3 * (1 * 1 * (1 * 1)) = 4 := by decide
  unfold rc
  rw [h, pw4]
  decide +kernel
theorem got41 : gotf 4 1 = 57896044618658097711785492504343953926634992332820282019728792003956564819945 := by unfold gotf; rw [rc41]; decide +kernel
theorem fix41 : fixf 4 1 = true := by
  unfold fixf
  rw [got41, show (-4 : Int) % P = 57896044618658097711785492504343953926634992332820282019728792003956564819945 from by decide +kernel, eqf_self]
  rfl
theorem ok41 : okf 4 1 = true := by
  unfold okf
  rw [got41, show (-4 : Int) % P = 57896044618658097711785492504343953926634992332820282019728792003956564819945 from by decide +kernel, eqf_self]
  simp
theorem root41 : ab (rootf 4 1) = 2 := by
  unfold rootf
  rw [fix41, if_pos rfl, rc41]
  decide +kernel
theorem leg2 : leg 2 = -1 := by
  unfold leg
  rw [pw2]
  decide +kernel

set_option maxHeartbeats 8000000 in
set_option maxRecDepth 100000 in
theorem alive_true (w : World) : Calls Try.prog 9 #[] w fun e w' => e = .returned (.bool true) ∧ Chg w w' [] := by
  have hge := feGuard
  have m6 : (2 : Int) * 3 % P = 6 := by decide +kernel
  have mn : by8 (-1 % P) 0 = 236 := by decide +kernel
  have r1 : R256 1 := by unfold R256; decide
  have r2 : R256 2 := by unfold R256; decide
  have r3 : R256 3 := by unfold R256; decide
  have r4 : R256 4 := by unfold R256; decide
  go_enter Try.func9, Try.ntmps9
  go_wp2_with fail
  refine (FromInt_fe 4 ⟨by decide, by decide⟩ _).mono ?_
  rintro e y1 ⟨rfl, k1⟩
  go_wp2_with fail
  refine (FromInt_fe 1 ⟨by decide, by decide⟩ _).mono ?_
  rintro e y2 ⟨rfl, k2⟩
  go_wp2_with fail
  refine (SqrtRatio_fe 4 1 r4 r1 _).mono ?_
  rintro e y3 ⟨rfl, k3⟩
  rw [root41, ok41]
  have C3 := (k1.trans1 k2).trans1 k3
  clear k1 k2 k3
  have A1 : Blk (y3.alloc (.cells z32 23)) y3.heap.size z32 23 := Blk.new y3 z32 23
  have A2 : Blk ((y3.alloc (.cells z32 23)).setRow y3.heap.size (feC 2)) y3.heap.size (feC 2) 23 := A1.setRow _
  have C4 : Chg w ((y3.alloc (.cells z32 23)).setRow y3.heap.size (feC 2)) [] := (C3.alloc (.cells z32 23)).setRowNew C3.size _
  go_wp2_with (first | (refine wpList_store_row rfl 23 _ _ rfl y3.heap.size _ rfl rfl 23 _ A1 feInfo rfl (feC_one _) ?_) | (refine gl_build (by rfl) 23 #[(0, .const (.int .u8 2))] rfl (feC 2) (by kernel_rfl) ?_) | (refine gl_build (by rfl) 23 #[(0, .const (.int .u8 3))] rfl (feC 3) (by kernel_rfl) ?_) | (refine gl_build (by rfl) 23 #[(0, .const (.int .u8 6))] rfl (feC 6) (by kernel_rfl) ?_) | (refine gl_build (by rfl) 23 #[(0, .const (.int .u8 1))] rfl (feC 1) (by kernel_rfl) ?_))
  refine (Mul_fe 2 3 r2 r3 _).mono ?_
  rintro e y4 ⟨rfl, k4⟩
  rw [m6]
  have A3 := A2.chg k4 (by simp)
  have C5 := C4.trans1 k4
  go_wp2_with (first | (refine gl_load (by rfl) 23 _ rfl y3.heap.size rfl 23 (feC 2) _ A3 Try.underlying23 rfl feInfo ?_) | (refine gl_build (by rfl) 23 #[(0, .const (.int .u8 2))] rfl (feC 2) (by kernel_rfl) ?_) | (refine gl_build (by rfl) 23 #[(0, .const (.int .u8 3))] rfl (feC 3) (by kernel_rfl) ?_) | (refine gl_build (by rfl) 23 #[(0, .const (.int .u8 6))] rfl (feC 6) (by kernel_rfl) ?_) | (refine gl_build (by rfl) 23 #[(0, .const (.int .u8 1))] rfl (feC 1) (by kernel_rfl) ?_))
  refine (Legendre_fe 2 r2 (-1) leg2.symm _).mono ?_
  rintro e y5 ⟨rfl, k5⟩
  have C6 := C5.trans1 k5
  go_wp2_with (first | (refine gl_build (by rfl) 23 #[(0, .const (.int .u8 2))] rfl (feC 2) (by kernel_rfl) ?_) | (refine gl_build (by rfl) 23 #[(0, .const (.int .u8 3))] rfl (feC 3) (by kernel_rfl) ?_) | (refine gl_build (by rfl) 23 #[(0, .const (.int .u8 6))] rfl (feC 6) (by kernel_rfl) ?_) | (refine gl_build (by rfl) 23 #[(0, .const (.int .u8 1))] rfl (feC 1) (by kernel_rfl) ?_))
  refine (Neg_fe 1 r1 _).mono ?_
  rintro e y6 ⟨rfl, k6⟩
  have C7 := C6.trans1 k6
  go_wp2
  go_ret
  exact ⟨rfl, C7⟩
end Go.Proofs.Ytialljmkkichiab
