/- scalar.Reduce of nil and of a slice; make of bytes. -/
import Derived.Test.YtcdgkhejbdlapabTkRed
import Derived.Test.YtcdgkhejbdlapabDecO
import Derived.Test.YtcdgkhejbdlapabFieldOps
import Derived.Test.YtcdgkhejbdlapabSfS
set_option linter.unusedVariables false
set_option linter.unusedSimpArgs false
set_option linter.unnecessarySimpa false
namespace Go.Proofs.Ytcdgkhejbdlapab
open Go.RowKit N

theorem r256_c0' : R256 0 := by unfold R256; decide
attribute [local irreducible] nb shN L in
set_option maxHeartbeats 8000000 in
set_option maxRecDepth 100000 in
theorem Reduce_nil (w : World) :
    Calls Try.prog 23 #[.slice none 0 0] w fun e w' => e = .returned (fe 0) ∧ Chg w w' [] := by
  have b0 := Blk.new w z32 23
  have CC := (Chg.refl w []).alloc (.cells z32 23)
  go_enter Try.func23, Try.ntmps23
  go_wp2_with fail
  refine (power256_s _).mono ?_
  rintro e v1 ⟨rfl, k⟩
  replace b0 := b0.chg k (by simp)
  replace CC := CC.trans1 k
  clear k
  have A := Blk.new v1 #[.int .u64 0, .int .u64 0, .int .u64 0, .int .u64 0] 84
  have hl1 : w.heap.size < v1.heap.size := b0.lt
  have KX : Chg v1 ((((v1.alloc (.cells #[.int .u64 0, .int .u64 0, .int .u64 0, .int .u64 0] 84)).setRow v1.heap.size (wd4 shN)).alloc (.cells #[.int .u64 0, .int .u64 0, .int .u64 0, .int .u64 0] 84)).alloc (.cells #[.int .u64 0, .int .u64 0, .int .u64 0, .int .u64 0] 84)) [] := ((((Chg.refl v1 []).alloc (.cells #[.int .u64 0, .int .u64 0, .int .u64 0, .int .u64 0] 84)).setRowNew (Nat.le_refl _) _).alloc (.cells #[.int .u64 0, .int .u64 0, .int .u64 0, .int .u64 0] 84)).alloc (.cells #[.int .u64 0, .int .u64 0, .int .u64 0, .int .u64 0] 84)
  have b1 : NumAt ((((v1.alloc (.cells #[.int .u64 0, .int .u64 0, .int .u64 0, .int .u64 0] 84)).setRow v1.heap.size (wd4 shN)).alloc (.cells #[.int .u64 0, .int .u64 0, .int .u64 0, .int .u64 0] 84)).alloc (.cells #[.int .u64 0, .int .u64 0, .int .u64 0, .int .u64 0] 84)) v1.heap.size shN := ((A.setRow (wd4 shN)).alloc (.cells #[.int .u64 0, .int .u64 0, .int .u64 0, .int .u64 0] 84)).alloc (.cells #[.int .u64 0, .int .u64 0, .int .u64 0, .int .u64 0] 84)
  have b2 : NumAt ((((v1.alloc (.cells #[.int .u64 0, .int .u64 0, .int .u64 0, .int .u64 0] 84)).setRow v1.heap.size (wd4 shN)).alloc (.cells #[.int .u64 0, .int .u64 0, .int .u64 0, .int .u64 0] 84)).alloc (.cells #[.int .u64 0, .int .u64 0, .int .u64 0, .int .u64 0] 84)) (v1.heap.size + 1) 0 := by have h := (NumAt.new ((v1.alloc (.cells #[.int .u64 0, .int .u64 0, .int .u64 0, .int .u64 0] 84)).setRow v1.heap.size (wd4 shN))).alloc (.cells #[.int .u64 0, .int .u64 0, .int .u64 0, .int .u64 0] 84); simpa using h
  have b3 : An ((((v1.alloc (.cells #[.int .u64 0, .int .u64 0, .int .u64 0, .int .u64 0] 84)).setRow v1.heap.size (wd4 shN)).alloc (.cells #[.int .u64 0, .int .u64 0, .int .u64 0, .int .u64 0] 84)).alloc (.cells #[.int .u64 0, .int .u64 0, .int .u64 0, .int .u64 0] 84)) (v1.heap.size + 2) := by have h := (NumAt.new (((v1.alloc (.cells #[.int .u64 0, .int .u64 0, .int .u64 0, .int .u64 0] 84)).setRow v1.heap.size (wd4 shN)).alloc (.cells #[.int .u64 0, .int .u64 0, .int .u64 0, .int .u64 0] 84))); have h2 : NumAt ((((v1.alloc (.cells #[.int .u64 0, .int .u64 0, .int .u64 0, .int .u64 0] 84)).setRow v1.heap.size (wd4 shN)).alloc (.cells #[.int .u64 0, .int .u64 0, .int .u64 0, .int .u64 0] 84)).alloc (.cells #[.int .u64 0, .int .u64 0, .int .u64 0, .int .u64 0] 84)) (v1.heap.size + 2) 0 := (by simpa using h); exact h2.an
  replace b0 := b0.chg KX (by simp)
  replace CC := CC.trans1 KX
  clear KX
  go_wp2_with (refine wpList_store_row rfl 84 _ _ rfl v1.heap.size (wd4 shN) rfl rfl 84 _ A numInfo rfl (by simp [wd4, Value.oneCell']) ?_)
  clear A
  change Code.wp _ _ _ _ ((((v1.alloc (.cells #[.int .u64 0, .int .u64 0, .int .u64 0, .int .u64 0] 84)).setRow v1.heap.size (wd4 shN)).alloc (.cells #[.int .u64 0, .int .u64 0, .int .u64 0, .int .u64 0] 84)).alloc (.cells #[.int .u64 0, .int .u64 0, .int .u64 0, .int .u64 0] 84))
  generalize ((((v1.alloc (.cells #[.int .u64 0, .int .u64 0, .int .u64 0, .int .u64 0] 84)).setRow v1.heap.size (wd4 shN)).alloc (.cells #[.int .u64 0, .int .u64 0, .int .u64 0, .int .u64 0] 84)).alloc (.cells #[.int .u64 0, .int .u64 0, .int .u64 0, .int .u64 0] 84)) = v2 at *
  generalize v1.heap.size = gx at *
  go_loopw [6] (fun t wr => t = .int .i64 0 ∧ Blk wr w.heap.size z32 23 ∧ NumAt wr (gx + 1) 0 ∧ Chg w wr []) (fun t _ => 0)
  case atStart => exact ⟨rfl, b0, b2, CC⟩
  case round =>
    obtain ⟨rfl, c0, c2, cC⟩ := hrel
    clear b0 b1 b2 b3 CC
    go_wp2_with fail
    refine (bytes_any (gx + 1) _ r256_c0' _ c2).mono ?_
    rintro e v3 ⟨rfl, k⟩
    replace c0 := c0.chg k (by simp)
    replace cC := cC.trans1 k
    go_wp2_with (refine wpList_store_row rfl 23 _ _ rfl w.heap.size _ rfl rfl 23 _ c0 feInfo rfl (feC_one _) ?_)
    exact bodyPost_ret (results_cell_row Try.results23 _ _ w.heap.size 23 (feC 0) (0, 0) _ rfl (Blk.setRow c0 _) Try.underlying23 rfl feInfo) rfl ⟨rfl, cC.setRowNew (Nat.le_refl _) _⟩

theorem Reduce_is (v : Value) (n : Nat) (f : Nat → Nat) (R : Int) (hn : n ≤ 140737488355328) (hR : ((nb f 0 n : Nat) : Int) % L = R) (w : World) (hS : Sl w v n f) :
    Calls Try.prog 23 #[v] w fun e w' => e = .returned (fe R) ∧ Chg w w' [] := by
  subst hR
  rcases hS with ⟨rfl, rfl⟩ | ⟨g, o, cap, rfl, h1, h2, hb⟩
  · exact Reduce_nil w
  · exact Reduce_b g o cap n f h1 h2 hn w hb
theorem Decode_is (v : Value) (n : Nat) (f : Nat → Nat) (X E : Int) (hX : dX n f = X) (hE : dE n f = E) (w : World) (hS : Sl w v n f) :
    Calls Try.prog 24 #[v] w fun e w' => e = .returned (.tuple #[fe X, .int .i64 E]) ∧ Chg w w' [] := by
  subst hX hE
  rcases hS with ⟨rfl, rfl⟩ | ⟨g, o, cap, rfl, h1, h2, hb⟩
  · exact Decode_len none 0 0 (by decide) w
  · exact Decode_o g o cap n f h1 h2 w hb
theorem Add_is (a b R : Int) (ra : R256 a) (rb : R256 b) (hR : ad a b = R) (w : World) : Calls Try.prog 8 #[fe a, fe b] w fun e w' => e = .returned (fe R) ∧ Chg w w' [] := by
  subst hR
  exact Add_o a b ra rb w
theorem Mul_is' (a b R : Int) (ra : R256 a) (rb : R256 b) (hR : ml a b = R) (w : World) : Calls Try.prog 9 #[fe a, fe b] w fun e w' => e = .returned (fe R) ∧ Chg w w' [] := by
  subst hR
  exact Mul_o a b ra rb w
theorem make_yi (r : Nat) (hr : r ≤ 1000) (W : World) : (Instr.makeSlice 34 (.int .i64 (r : Int)) (.int .i64 (r : Int))).run Try.prog W = .ok (.slice (some ⟨W.heap.size, 0, none⟩) r r) (W.alloc (.cells (yC r fun _ => 0) 5)) := by
  obtain ⟨i, hi, hz, h1, h2⟩ := u8Row
  have h := run_make (P := Try.prog) W 34 5 i (.int .u8 0) Try.underlying34 hi hz .i64 .i64 (r : Int) (r : Int) (by omega) (by omega) (by rw [h2]; omega) (by omega)
  rw [h, h1, Int.toNat_natCast, Nat.mul_one]
  show Result.ok _ (W.alloc (.cells (madeCells #[.int .u8 0] r) 5)) = _
  rw [made_y]
theorem sl_yC (w : World) (r : Nat) (hr : r ≤ 1000) (F : Nat → Nat) (hF : ∀ i, F i < 256) : Sl (w.alloc (.cells (yC r F) 5)) (.slice (some ⟨w.heap.size, 0, none⟩) r r) r F := by
  have B := Blk.new w (yC r F) 5
  refine Or.inr ⟨w.heap.size, 0, r, rfl, Nat.le_refl _, by omega, B.lt, fun i _ => hF i, fun i hi => ?_⟩
  rw [Nat.zero_add, B.cell, yC_get _ _ _ hi]
theorem cat_shift (f g : Nat → Nat) (n : Nat) : ∀ (m k : Nat), nb (cat f n g) (n + k) m = nb g k m
  | 0, k => rfl
  | m + 1, k => by
    show cat f n g (n + k) + 256 * nb (cat f n g) (n + k + 1) m = g k + 256 * nb g (k + 1) m
    rw [Nat.add_assoc, cat_shift f g n m (k + 1)]
    congr 1
    unfold cat
    rw [if_neg (by omega)]
    congr 1
    omega
theorem cat_nb (f g : Nat → Nat) (n m : Nat) : nb (cat f n g) 0 (n + m) = nb f 0 n + 256 ^ n * nb g 0 m := by
  rw [nb_add]
  congr 1
  · exact nb_cong _ _ n 0 (fun i _ hi => by unfold cat; rw [if_pos (by omega)])
  · congr 1
    have h := cat_shift f g n m 0
    rw [Nat.add_zero] at h
    rw [Nat.zero_add]
    exact h
theorem nb_zeros (k m : Nat) : nb (fun _ => 0) k m = 0 := nb_zero _ m k (fun _ _ => rfl)
end Go.Proofs.Ytcdgkhejbdlapab
