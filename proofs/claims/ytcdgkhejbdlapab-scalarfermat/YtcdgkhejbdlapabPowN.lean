/- scalar.Power of nil; of a slice. -/
import Derived.Test.YtcdgkhejbdlapabFun2
import Derived.Test.YtcdgkhejbdlapabByt
set_option linter.unusedVariables false
set_option linter.unusedSimpArgs false
set_option linter.unnecessarySimpa false
namespace Go.Proofs.Ytcdgkhejbdlapab
open Go.RowKit N

set_option maxHeartbeats 4000000 in
set_option maxRecDepth 100000 in
theorem power_nil (z x : Nat) (n : Int) (rn : RL n) (w : World) (hz : An w z) (hx : NumAt w x n) :
    Calls Try.prog 44 #[.pointer (some ⟨z, 0, none⟩), .pointer (some ⟨x, 0, none⟩), .slice none 0 0] w fun e w' => e = .returned (.tuple #[]) ∧ NumAt w' z (pw n 0) ∧ Chg w w' [z] := by
  have hzl := hz.lt
  have c0 := hx.c0; have c1 := hx.c1; have c2 := hx.c2; have c3 := hx.c3
  have A0 : NumAt ((w.alloc (.cells (wd4 n) 84)).alloc (.cells #[.int .u64 1, .int .u64 0, .int .u64 0, .int .u64 0] 84)) w.heap.size n := (Blk.new w (wd4 n) 84).alloc _
  have A1 : NumAt ((w.alloc (.cells (wd4 n) 84)).alloc (.cells #[.int .u64 1, .int .u64 0, .int .u64 0, .int .u64 0] 84)) (w.heap.size + 1) 1 := by
    have h' : Blk ((w.alloc (.cells (wd4 n) 84)).alloc (.cells #[.int .u64 1, .int .u64 0, .int .u64 0, .int .u64 0] 84)) (w.heap.size + 1) #[.int .u64 1, .int .u64 0, .int .u64 0, .int .u64 0] 84 := by have h := Blk.new (w.alloc (.cells (wd4 n) 84)) #[.int .u64 1, .int .u64 0, .int .u64 0, .int .u64 0] 84; simpa using h
    exact h'
  have CC : Chg w ((w.alloc (.cells (wd4 n) 84)).alloc (.cells #[.int .u64 1, .int .u64 0, .int .u64 0, .int .u64 0] 84)) [z] := ((Chg.refl w _).alloc _).alloc _
  replace hz := (hz.alloc (.cells (wd4 n) 84)).alloc (.cells #[.int .u64 1, .int .u64 0, .int .u64 0, .int .u64 0] 84)
  clear hx
  go_enter Try.func44, Try.ntmps44
  go_wp2_with fail
  change Code.wp _ _ _ _ ((w.alloc (.cells (wd4 n) 84)).alloc (.cells #[.int .u64 1, .int .u64 0, .int .u64 0, .int .u64 0] 84))
  have hq : w.heap.size ≤ w.heap.size := Nat.le_refl _
  have hsz : w.heap.size + 1 < ((w.alloc (.cells (wd4 n) 84)).alloc (.cells #[.int .u64 1, .int .u64 0, .int .u64 0, .int .u64 0] 84)).heap.size := A1.lt
  generalize ((w.alloc (.cells (wd4 n) 84)).alloc (.cells #[.int .u64 1, .int .u64 0, .int .u64 0, .int .u64 0] 84)) = v0 at *
  generalize hqq : w.heap.size = q at *
  have HQ : Hid (w.heap.size = q) := hqq
  clear hqq c0 c1 c2 c3
  have hzq : ¬ z = q := by omega
  have hzq1 : ¬ z = q + 1 := by omega
  go_loopw [17] (fun t wr => t = .int .i64 0 ∧ NumAt wr (q + 1) (pw n 0) ∧ NumAt wr q n ∧ An wr z ∧ Chg w wr [z]) (fun t _ => 0)
  case atStart => exact ⟨rfl, by rw [pw_zero]; exact A1, A0, hz, CC⟩
  case round =>
    obtain ⟨rfl, r0, r1, r3, r4⟩ := hrel
    clear A0 A1 hz CC
    obtain ⟨x0, x1, x2, x3, r3⟩ := r3
    have r3' : Blk wr z #[x0, x1, x2, x3] 84 := r3
    go_wp2_with (first | (refine wpList_load_row rfl 84 _ rfl (q + 1) rfl 84 _ (0, 0) _ r0 Try.underlying84 rfl numInfo ?_) | (refine wpList_store_row rfl 84 _ _ rfl z _ rfl rfl 84 _ r3' numInfo rfl (by simp [wd4, Value.oneCell']) ?_))
    go_end0
    exact ⟨rfl, Blk.setRow r3' _, r4.trans1 (Chg.of (gb_setRow (gb_refl _ _) _))⟩
set_option maxHeartbeats 4000000 in
set_option maxRecDepth 100000 in
theorem Power_nil (a : Int) (ra : R256 a) (w : World) :
    Calls Try.prog 18 #[fe a, .slice none 0 0] w fun e w' => e = .returned (fe (pw a 0)) ∧ Chg w w' [] := by
  go_enter Try.func18, Try.ntmps18
  go_wp2_with fail
  have hc : Chg w (((w.alloc (.cells (feC a) 23)).alloc (.cells z32 23)).alloc (.cells #[.int .u64 0, .int .u64 0, .int .u64 0, .int .u64 0] 84)) [] := ((((Chg.refl w []).alloc (.cells (feC a) 23)).alloc (.cells z32 23)).alloc (.cells #[.int .u64 0, .int .u64 0, .int .u64 0, .int .u64 0] 84))
  have f0 : Blk (((w.alloc (.cells (feC a) 23)).alloc (.cells z32 23)).alloc (.cells #[.int .u64 0, .int .u64 0, .int .u64 0, .int .u64 0] 84)) w.heap.size (feC a) 23 := by have h := (((Blk.new w (feC a) 23).alloc (.cells z32 23)).alloc (.cells #[.int .u64 0, .int .u64 0, .int .u64 0, .int .u64 0] 84)); simpa using h
  have f1 : Blk (((w.alloc (.cells (feC a) 23)).alloc (.cells z32 23)).alloc (.cells #[.int .u64 0, .int .u64 0, .int .u64 0, .int .u64 0] 84)) (w.heap.size + 1) z32 23 := by have h := ((Blk.new (w.alloc (.cells (feC a) 23)) z32 23).alloc (.cells #[.int .u64 0, .int .u64 0, .int .u64 0, .int .u64 0] 84)); simpa using h
  have f2 : NumAt (((w.alloc (.cells (feC a) 23)).alloc (.cells z32 23)).alloc (.cells #[.int .u64 0, .int .u64 0, .int .u64 0, .int .u64 0] 84)) (w.heap.size + 2) 0 := by have h := (NumAt.new ((w.alloc (.cells (feC a) 23)).alloc (.cells z32 23))); simpa using h
  generalize hv0 : (((w.alloc (.cells (feC a) 23)).alloc (.cells z32 23)).alloc (.cells #[.int .u64 0, .int .u64 0, .int .u64 0, .int .u64 0] 84)) = v0 at hc f0 f1 f2
  try (change Calls Try.prog _ _ (((w.alloc (.cells (feC a) 23)).alloc (.cells z32 23)).alloc (.cells #[.int .u64 0, .int .u64 0, .int .u64 0, .int .u64 0] 84)) _; rw [hv0])
  clear hv0
  refine (load_any (w.heap.size + 2) w.heap.size a ra (by omega) v0 f2.an f0).mono ?_
  rintro e v1 ⟨rfl, q, k⟩
  replace f0 := f0.chg k (by simp)
  replace f1 := f1.chg k (by simp)
  replace hc := hc.new k (by omega)
  clear f2 k
  have f2 := q
  clear q
  go_wp2_with fail
  refine (power_nil (w.heap.size + 2) (w.heap.size + 2) _ (rl_mod _) v1 f2.an f2).mono ?_
  rintro e v2 ⟨rfl, q, k⟩
  rw [pw_mod] at q
  replace f0 := f0.chg k (by simp)
  replace f1 := f1.chg k (by simp)
  replace hc := hc.new k (by omega)
  clear f2 k
  have f2 := q
  clear q
  go_wp2_with fail
  refine (bytes_any (w.heap.size + 2) _ (r256_rl (pw_rl _ _)) v2 f2).mono ?_
  rintro e v3 ⟨rfl, k⟩
  replace f0 := f0.chg k (by simp)
  replace f1 := f1.chg k (by simp)
  replace f2 := f2.chg k (by simp)
  replace hc := hc.trans1 k
  clear k
  go_wp2_with (refine wpList_store_row rfl 23 _ _ rfl (w.heap.size + 1) _ rfl rfl 23 _ f1 feInfo rfl (feC_one _) ?_)
  exact bodyPost_ret (results_cell_row Try.results18 _ _ (w.heap.size + 1) 23 (feC (pw a (0))) (0, 0) _ rfl (Blk.setRow f1 _) Try.underlying23 rfl feInfo) rfl ⟨rfl, hc.setRowNew (by omega) _⟩

theorem Power_sl (a : Int) (ra : R256 a) (v : Value) (n : Nat) (f : Nat → Nat) (hn : n ≤ 140737488355328) (X : Nat) (hX : nb f 0 n = X) (w : World) (hS : Sl w v n f) :
    Calls Try.prog 18 #[fe a, v] w fun e w' => e = .returned (fe (pw a X)) ∧ Chg w w' [] := by
  subst hX
  rcases hS with ⟨rfl, rfl⟩ | ⟨g, o, cap, rfl, _, _, hb⟩
  · exact Power_nil a ra w
  · exact Power_s a ra g o n cap f hn w hb
end Go.Proofs.Ytcdgkhejbdlapab
