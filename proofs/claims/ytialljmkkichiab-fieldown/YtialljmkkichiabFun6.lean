/- Split, Decode, Reduce of an array and of nothing. -/
import Derived.Test.YtialljmkkichiabRdc
import Derived.Test.YtialljmkkichiabFun2
set_option linter.unusedVariables false
set_option linter.unusedSimpArgs false
set_option linter.unnecessarySimpa false
namespace Go.Proofs.Ytialljmkkichiab
open Go.RowKit N

/-- Five limbs, as a value. -/
def lc (l0 l1 l2 l3 l4 : Int) : Array Value := #[.int .u64 l0, .int .u64 l1, .int .u64 l2, .int .u64 l3, .int .u64 l4]
theorem lc_one (l0 l1 l2 l3 l4 : Int) : (lc l0 l1 l2 l3 l4).all (·.oneCell') = true := by simp [lc, Value.oneCell']

set_option maxHeartbeats 4000000 in
set_option maxRecDepth 100000 in
theorem Split_fe (a : Int) (ra : R256 a) (w : World) :
    Calls Try.prog 26 #[fe a] w fun e w' => (∃ l0 l1 l2 l3 l4 : Int, e = .returned (.agg (lc l0 l1 l2 l3 l4)) ∧ (Li l0 ∧ Li l1 ∧ Li l2 ∧ Li l3 ∧ Li l4) ∧ V l0 l1 l2 l3 l4 = a % P) ∧ Chg w w' [] := by
  go_enter Try.func26, Try.ntmps26
  go_wp2_with fail
  have C0 : Chg w (((w.alloc (.cells (feC a) 23)).alloc (.cells #[.int .u64 0, .int .u64 0, .int .u64 0, .int .u64 0, .int .u64 0] 41)).alloc (.cells #[.int .u64 0, .int .u64 0, .int .u64 0, .int .u64 0, .int .u64 0] 79)) [] := (((Chg.refl w []).alloc _).alloc _).alloc _
  have f0 : Blk (((w.alloc (.cells (feC a) 23)).alloc (.cells #[.int .u64 0, .int .u64 0, .int .u64 0, .int .u64 0, .int .u64 0] 41)).alloc (.cells #[.int .u64 0, .int .u64 0, .int .u64 0, .int .u64 0, .int .u64 0] 79)) w.heap.size (feC a) 23 := ((Blk.new w (feC a) 23).alloc _).alloc _
  have f1 : Blk (((w.alloc (.cells (feC a) 23)).alloc (.cells #[.int .u64 0, .int .u64 0, .int .u64 0, .int .u64 0, .int .u64 0] 41)).alloc (.cells #[.int .u64 0, .int .u64 0, .int .u64 0, .int .u64 0, .int .u64 0] 79)) (w.heap.size + 1) #[.int .u64 0, .int .u64 0, .int .u64 0, .int .u64 0, .int .u64 0] 41 := by have h := (Blk.new (w.alloc (.cells (feC a) 23)) #[.int .u64 0, .int .u64 0, .int .u64 0, .int .u64 0, .int .u64 0] 41).alloc (.cells #[.int .u64 0, .int .u64 0, .int .u64 0, .int .u64 0, .int .u64 0] 79); simpa using h
  have f2 : An (((w.alloc (.cells (feC a) 23)).alloc (.cells #[.int .u64 0, .int .u64 0, .int .u64 0, .int .u64 0, .int .u64 0] 41)).alloc (.cells #[.int .u64 0, .int .u64 0, .int .u64 0, .int .u64 0, .int .u64 0] 79)) (w.heap.size + 1 + 1) := by have h := An.new ((w.alloc (.cells (feC a) 23)).alloc (.cells #[.int .u64 0, .int .u64 0, .int .u64 0, .int .u64 0, .int .u64 0] 41)); simpa using h
  refine (load_nm (w.heap.size + 1 + 1) w.heap.size a 23 _ ra.1 ra.2 f2 f0).mono ?_
  rintro e v1 ⟨rfl, ⟨x0, x1, x2, x3, x4, hx, ⟨l0, l1, l2, l3, l4⟩, hv⟩, k⟩
  replace f1 := f1.chg k (by simp)
  replace C0 := C0.new k (by omega)
  clear f0 f2 k
  go_wp2_with fail
  refine (reduce_any (w.heap.size + 1 + 1) x0 x1 x2 x3 x4 _ hx (lo_wo l0) (lo_wo l1) (lo_wo l2) (lo_wo l3) (lo_wo l4)).mono ?_
  rintro e v2 ⟨rfl, y0, y1, y2, y3, y4, hy, hg, hl, hv'⟩
  replace f1 := f1.chg (Chg.of hg) (by simp)
  replace C0 := C0.new (Chg.of hg) (by omega)
  rw [hv] at hv'
  clear hx hg
  have hy' : Blk v2 (w.heap.size + 1 + 1) (lc y0 y1 y2 y3 y4) 79 := hy
  go_wp2_with (first | (refine wpList_load_row rfl 79 _ rfl (w.heap.size + 1 + 1) rfl 79 _ (0, 0) _ hy' Try.underlying79 rfl (by kernel_rfl) ?_) | (refine wpList_store_row rfl 41 _ _ rfl (w.heap.size + 1) _ rfl rfl 41 _ f1 (by kernel_rfl) rfl (lc_one _ _ _ _ _) ?_))
  exact bodyPost_ret (results_cell_row Try.results26 _ _ (w.heap.size + 1) 41 (lc y0 y1 y2 y3 y4) (0, 0) _ rfl (Blk.setRow f1 _) Try.underlying41 rfl (by kernel_rfl)) rfl ⟨⟨y0, y1, y2, y3, y4, rfl, hl, hv'⟩, C0.setRowNew (by omega) _⟩

set_option maxHeartbeats 4000000 in
set_option maxRecDepth 100000 in
/-- Of no bytes. -/
theorem Reduce_nil (w : World) : Calls Try.prog 27 #[.slice none 0 0] w fun e w' => e = .returned (fe 0) ∧ Chg w w' [] := by
  go_enter Try.func27, Try.ntmps27
  go_wp2_with fail
  have C0 : Chg w (((w.alloc (.cells z32 23)).alloc (.cells #[.int .u64 0, .int .u64 0, .int .u64 0, .int .u64 0, .int .u64 0] 79)).alloc (.cells #[.int .u64 0, .int .u64 0, .int .u64 0, .int .u64 0, .int .u64 0] 79)) [] := (((Chg.refl w []).alloc _).alloc _).alloc _
  have f1 : Blk (((w.alloc (.cells z32 23)).alloc (.cells #[.int .u64 0, .int .u64 0, .int .u64 0, .int .u64 0, .int .u64 0] 79)).alloc (.cells #[.int .u64 0, .int .u64 0, .int .u64 0, .int .u64 0, .int .u64 0] 79)) w.heap.size z32 23 := ((Blk.new w z32 23).alloc _).alloc _
  have f2 : Nm (((w.alloc (.cells z32 23)).alloc (.cells #[.int .u64 0, .int .u64 0, .int .u64 0, .int .u64 0, .int .u64 0] 79)).alloc (.cells #[.int .u64 0, .int .u64 0, .int .u64 0, .int .u64 0, .int .u64 0] 79)) (w.heap.size + 1) 0 := by have h := (Nm.new (w.alloc (.cells z32 23))).alloc (.cells #[.int .u64 0, .int .u64 0, .int .u64 0, .int .u64 0, .int .u64 0] 79); simpa using h
  go_loopw [5] (fun t wr => t = .int .i64 0 ∧ Nm wr (w.heap.size + 1) 0 ∧ Blk wr w.heap.size z32 23 ∧ Chg w wr []) (fun t _ => (intOf t).toNat)
  case atStart => exact ⟨rfl, f2, f1, C0⟩
  case round =>
    obtain ⟨rfl, r0, r3, r4⟩ := hrel
    go_wp2_with fail
    refine (bytes_nm (w.heap.size + 1) _ _ r0).mono ?_
    rintro e v3 ⟨rfl, t0, k3⟩
    have t3 := r3.chg k3 (by simp)
    have t4 := r4.new k3 (by omega)
    go_wp2_with (refine wpList_store_row rfl 23 _ _ rfl w.heap.size _ rfl rfl 23 _ t3 feInfo rfl (feC_one _) ?_)
    exact bodyPost_ret (results_cell_row Try.results27 _ _ w.heap.size 23 (feC 0) (0, 0) _ rfl (Blk.setRow t3 _) Try.underlying23 rfl feInfo) rfl ⟨rfl, t4.setRowNew (Nat.le_refl _) _⟩

/-- The bytes of a number. -/
def byf (a : Int) (i : Nat) : Nat := (by8 a i).toNat
theorem by8_range (a : Int) (i : Nat) : 0 ≤ by8 a i ∧ by8 a i < 256 := by unfold by8; omega
theorem byf_int (a : Int) (i : Nat) : ((byf a i : Nat) : Int) = by8 a i := by unfold byf; have := by8_range a i; omega
theorem byf_nat (n i : Nat) : byf (n : Int) i = n / 256 ^ i % 256 := by unfold byf; rw [by8_nat]; omega
theorem nb_byf (n : Nat) : ∀ (m k : Nat), nb (byf (n : Int)) k m = n / 256 ^ k % 256 ^ m
  | 0, k => by simp [nb, Nat.mod_one]
  | m + 1, k => by
    rw [nb_succ, nb_byf n m (k + 1), byf_nat, Nat.pow_succ 256 k, ← Nat.div_div_eq_div_mul, Nat.pow_succ 256 m, Nat.mul_comm (256 ^ m) 256, Nat.mod_mul]
theorem nb_all (a : Int) (ra : R256 a) : ((nb (byf a) 0 32 : Nat) : Int) = a := by
  obtain ⟨n, rfl⟩ := Int.eq_ofNat_of_zero_le ra.1
  have h := ra.2
  rw [nb_byf]
  simp
  omega
theorem Blk.bs {w : World} {g : Nat} {a : Int} {T : TypeId} (h : Blk w g (feC a) T) : Bs w g 0 32 (byf a) := by
  refine ⟨h.lt, fun i _ => ?_, fun i hi => ?_⟩
  · have := byf_int a i; have := by8_range a i; omega
  · rw [h.cell, Nat.zero_add, byf_int]; exact feC_get a i hi
theorem Reduce_arr (g : Nat) (a : Int) (ra : R256 a) (T : TypeId) (w : World) (h : Blk w g (feC a) T) :
    Calls Try.prog 27 #[.slice (some ⟨g, 0, none⟩) 32 32] w fun e w' => e = .returned (fe (a % P)) ∧ Chg w w' [] := by
  have := Reduce_fe g 0 32 32 (byf a) (by decide) (by decide) w h.bs
  rw [nb_all a ra] at this
  exact this
end Go.Proofs.Ytialljmkkichiab
