/- Neg, Join, FromInt, SqrtM1, IsNegative, Select, Legendre, Equal, Abs. -/
import Derived.Test.YtialljmkkichiabFun2
set_option linter.unusedVariables false
set_option linter.unusedSimpArgs false
set_option linter.unnecessarySimpa false
namespace Go.Proofs.Ytialljmkkichiab
open Go.RowKit N

theorem wpList_build_fe {P : Program} {ops : Array Oper} {rest : List Oper} {o : Oper} {a : Act} {w : World} {Q : Exit → Act → World → Prop} (hg : o.guard = none) (t : TypeId) (parts : Array (Nat × Operand)) (ho : o.op = .build t parts)
    (cells : Array Value) (hb : P.built t (parts.map fun (i, x) => (i, a.eval x)).toList = some cells) (h : wpList P ops Q rest (a.put o.dst (.agg cells)) w) : wpList P ops Q (o :: rest) a w :=
  wpList_build hg t parts ho (by rw [hb]; rfl) (by rw [hb]; exact h)
theorem exec_build {P : Program} {o : Oper} {a : Act} (w : World) (t : TypeId) (parts : Array (Nat × Operand)) (ho : o.op = .build t parts) (cells : Array Value) (hb : P.built t (parts.map fun (i, x) => (i, a.eval x)).toList = some cells) :
    (execOp a.eval o).run P w = .ok (.value (.agg cells)) w := by
  have h := run_build (P := P) w t (parts.map fun (i, x) => (i, a.eval x)) cells hb
  unfold execOp
  simp only [ho, Sem.run_bind, h, Result.andThen_ok, Sem.run_pure]

/-- The root of -1 that is not negative. -/
def S1 : Int := 19681161376707505956807079304988542015446066515923890162744021073123829784752
theorem r256_S1 : R256 S1 := by unfold R256 S1; decide
theorem r256_0 : R256 0 := by unfold R256; decide
theorem r256_1 : R256 1 := by unfold R256; decide
theorem r256_pw (n : Int) (k : Nat) : R256 (pw n k) := r256_mod _

set_option maxHeartbeats 4000000 in
set_option maxRecDepth 100000 in
theorem SqrtM1_fe (w : World) :
    Calls Try.prog 25 #[] w fun e w' => e = .returned (fe S1) ∧ Chg w w' [] := by
  have F0 : Blk (w.alloc (.cells z32 23)) w.heap.size z32 23 := Blk.new w z32 23
  go_enter Try.func25, Try.ntmps25
  go_wp2_with (first | (refine wpList_build_fe rfl 23 _ rfl (feC S1) (by kernel_rfl) ?_) | (refine wpList_store_row rfl 23 _ _ rfl w.heap.size _ rfl rfl 23 _ F0 feInfo rfl (feC_one _) ?_))
  exact bodyPost_ret (results_cell_row Try.results25 _ _ w.heap.size 23 (feC S1) (0, 0) _ rfl (Blk.setRow F0 _) Try.underlying23 rfl feInfo) rfl ⟨rfl, ((Chg.refl w []).alloc (.cells z32 23)).setRowNew (Nat.le_refl _) _⟩

set_option maxHeartbeats 4000000 in
set_option maxRecDepth 100000 in
theorem Neg_fe (a : Int) (ra : R256 a) (w : World) :
    Calls Try.prog 13 #[fe a] w fun e w' => e = .returned (fe (-a % P)) ∧ Chg w w' [] := by
  have F0 : Blk ((w.alloc (.cells (feC a) 23)).alloc (.cells z32 23)) w.heap.size (feC a) 23 := (Blk.new w (feC a) 23).alloc _
  have F1 : Blk ((w.alloc (.cells (feC a) 23)).alloc (.cells z32 23)) (w.heap.size + 1) z32 23 := by have h := Blk.new (w.alloc (.cells (feC a) 23)) z32 23; simpa using h
  have C0 := ((Chg.refl w []).alloc (.cells (feC a) 23)).alloc (.cells z32 23)
  go_enter Try.func13, Try.ntmps13
  go_wp2_with (first | (refine wpList_build_fe rfl 23 _ rfl (feC 0) (by kernel_rfl) ?_) | (refine wpList_load_row rfl 23 _ rfl w.heap.size rfl 23 _ (0, 0) _ F0 Try.underlying23 rfl feInfo ?_))
  refine (Sub_fe 0 a r256_0 ra _).mono ?_
  rintro e v1 ⟨rfl, k⟩
  have F1' := F1.chg k (by simp)
  rw [show (0 : Int) - a = -a from by omega]
  go_wp2_with (refine wpList_store_row rfl 23 _ _ rfl (w.heap.size + 1) _ rfl rfl 23 _ F1' feInfo rfl (feC_one _) ?_)
  exact bodyPost_ret (results_cell_row Try.results13 _ _ (w.heap.size + 1) 23 (feC (-a % P)) (0, 0) _ rfl (Blk.setRow F1' _) Try.underlying23 rfl feInfo) rfl ⟨rfl, (C0.trans1 k).setRowNew (by omega) _⟩

set_option maxHeartbeats 4000000 in
set_option maxRecDepth 100000 in
theorem Join_fe (l0 l1 l2 l3 l4 : Int) (h0 : Wo l0) (h1 : Wo l1) (h2 : Wo l2) (h3 : Wo l3) (h4 : Wo l4) (w : World) :
    Calls Try.prog 29 #[.agg #[.int .u64 l0, .int .u64 l1, .int .u64 l2, .int .u64 l3, .int .u64 l4]] w fun e w' => e = .returned (fe (V l0 l1 l2 l3 l4 % P)) ∧ Chg w w' [] := by
  have F1 : Blk (((w.alloc (.cells #[.int .u64 l0, .int .u64 l1, .int .u64 l2, .int .u64 l3, .int .u64 l4] 41)).alloc (.cells z32 23)).alloc (.cells #[.int .u64 l0, .int .u64 l1, .int .u64 l2, .int .u64 l3, .int .u64 l4] 79)) (w.heap.size + 1) z32 23 := by have h := (Blk.new (w.alloc (.cells #[.int .u64 l0, .int .u64 l1, .int .u64 l2, .int .u64 l3, .int .u64 l4] 41)) z32 23).alloc (.cells #[.int .u64 l0, .int .u64 l1, .int .u64 l2, .int .u64 l3, .int .u64 l4] 79); simpa using h
  have F2 : NumAt (((w.alloc (.cells #[.int .u64 l0, .int .u64 l1, .int .u64 l2, .int .u64 l3, .int .u64 l4] 41)).alloc (.cells z32 23)).alloc (.cells #[.int .u64 l0, .int .u64 l1, .int .u64 l2, .int .u64 l3, .int .u64 l4] 79)) (w.heap.size + 1 + 1) l0 l1 l2 l3 l4 := by have h := Blk.new ((w.alloc (.cells #[.int .u64 l0, .int .u64 l1, .int .u64 l2, .int .u64 l3, .int .u64 l4] 41)).alloc (.cells z32 23)) #[.int .u64 l0, .int .u64 l1, .int .u64 l2, .int .u64 l3, .int .u64 l4] 79; exact (by simpa using h : Blk _ _ _ _)
  have C0 := (((Chg.refl w []).alloc (.cells #[.int .u64 l0, .int .u64 l1, .int .u64 l2, .int .u64 l3, .int .u64 l4] 41)).alloc (.cells z32 23)).alloc (.cells #[.int .u64 l0, .int .u64 l1, .int .u64 l2, .int .u64 l3, .int .u64 l4] 79)
  go_enter Try.func29, Try.ntmps29
  go_wp2_with fail
  refine (bytes_any (w.heap.size + 1 + 1) l0 l1 l2 l3 l4 _ F2 h0 h1 h2 h3 h4).mono ?_
  rintro e v1 ⟨rfl, y0, y1, y2, y3, y4, hn, hg, _, _⟩
  have F1' := F1.grown hg (by simp)
  have C1 := C0.new (Chg.of hg) (by omega)
  go_wp2_with (refine wpList_store_row rfl 23 _ _ rfl (w.heap.size + 1) _ rfl rfl 23 _ F1' feInfo rfl (feC_one _) ?_)
  exact bodyPost_ret (results_cell_row Try.results29 _ _ (w.heap.size + 1) 23 (feC (V l0 l1 l2 l3 l4 % P)) (0, 0) _ rfl (Blk.setRow F1' _) Try.underlying23 rfl feInfo) rfl ⟨rfl, C1.setRowNew (by omega) _⟩

set_option maxHeartbeats 4000000 in
set_option maxRecDepth 100000 in
theorem FromInt_fe (n : Int) (hn : Wo n) (w : World) :
    Calls Try.prog 10 #[.int .u64 n] w fun e w' => e = .returned (fe n) ∧ Chg w w' [] := by
  have F0 : Blk (w.alloc (.cells z32 23)) w.heap.size z32 23 := Blk.new w z32 23
  have C0 := (Chg.refl w []).alloc (.cells z32 23)
  have hw0 : Wo 0 := ⟨by decide, by decide⟩
  have hv : V n 0 0 0 0 % P = n := by
    obtain ⟨h1, h2⟩ := hn
    unfold V P
    omega
  go_enter Try.func10, Try.ntmps10
  go_wp2_with fail
  refine (Join_fe n 0 0 0 0 hn hw0 hw0 hw0 hw0 _).mono ?_
  rintro e v1 ⟨rfl, k⟩
  rw [hv]
  have F0' := F0.chg k (by simp)
  go_wp2_with (refine wpList_store_row rfl 23 _ _ rfl w.heap.size _ rfl rfl 23 _ F0' feInfo rfl (feC_one _) ?_)
  exact bodyPost_ret (results_cell_row Try.results10 _ _ w.heap.size 23 (feC n) (0, 0) _ rfl (Blk.setRow F0' _) Try.underlying23 rfl feInfo) rfl ⟨rfl, (C0.trans1 k).setRowNew (Nat.le_refl _) _⟩

theorem odd_bit (n : Int) : bits .and .u8 (by8 n 0) 1 = n % 2 := by
  have h := by8_bd n 0
  rw [u8_and (by8 n 0) 1 h.1 h.2 (by decide) (by decide), show (1 : Int).toNat = 1 from rfl, nat_mask1]
  have e : by8 n 0 = n % 256 := by unfold by8; simp
  omega

set_option maxHeartbeats 4000000 in
set_option maxRecDepth 100000 in
theorem IsNegative_fe (a : Int) (ra : R256 a) (w : World) :
    Calls Try.prog 22 #[fe a] w fun e w' => e = .returned (.bool (a % P % 2 == 1)) ∧ Chg w w' [] := by
  have F0 := Blk.new w (feC a) 23
  have C0 := (Chg.refl w []).alloc (.cells (feC a) 23)
  have m := odd_bit (a % P)
  go_enter Try.func22, Try.ntmps22
  go_wp2_with (first | (refine wpList_load_row rfl 23 _ rfl w.heap.size rfl 23 _ (0, 0) _ F0 Try.underlying23 rfl feInfo ?_) | (go_at_call 41; refine (canonical_fe a ra _).mono ?_; rintro e v1 ⟨rfl, k⟩))
  go_ret
  exact ⟨rfl, C0.trans1 k⟩

/-- b, if p; else a. -/
def sel (p : Bool) (a b : Int) : Int := if p then b else a
set_option maxHeartbeats 4000000 in
set_option maxRecDepth 100000 in
theorem Select_fe (a b : Int) (ra : R256 a) (rb : R256 b) (p : Bool) (w : World) :
    Calls Try.prog 80 #[fe a, fe b, .bool p] w fun e w' => e = .returned (fe (sel p a b % P)) ∧ Chg w w' [] := by
  have F0 : Blk (((w.alloc (.cells (feC a) 23)).alloc (.cells (feC b) 23)).alloc (.cells z32 23)) w.heap.size (feC a) 23 := ((Blk.new w (feC a) 23).alloc _).alloc _
  have F1 : Blk (((w.alloc (.cells (feC a) 23)).alloc (.cells (feC b) 23)).alloc (.cells z32 23)) (w.heap.size + 1) (feC b) 23 := by have h := (Blk.new (w.alloc (.cells (feC a) 23)) (feC b) 23).alloc (.cells z32 23); simpa using h
  have F2 : Blk (((w.alloc (.cells (feC a) 23)).alloc (.cells (feC b) 23)).alloc (.cells z32 23)) (w.heap.size + 1 + 1) z32 23 := by have h := Blk.new ((w.alloc (.cells (feC a) 23)).alloc (.cells (feC b) 23)) z32 23; simpa using h
  have C0 := (((Chg.refl w []).alloc (.cells (feC a) 23)).alloc (.cells (feC b) 23)).alloc (.cells z32 23)
  cases p
  · go_enter Try.func80, Try.ntmps80
    go_wp2_with (first | (refine wpList_load_row rfl 23 _ rfl w.heap.size rfl 23 _ (0, 0) _ F0 Try.underlying23 rfl feInfo ?_))
    refine (canonical_fe a ra _).mono ?_
    rintro e v1 ⟨rfl, k⟩
    have F2' := F2.chg k (by simp)
    go_wp2_with (refine wpList_store_row rfl 23 _ _ rfl (w.heap.size + 1 + 1) _ rfl rfl 23 _ F2' feInfo rfl (feC_one _) ?_)
    exact bodyPost_ret (results_cell_row Try.results80 _ _ (w.heap.size + 1 + 1) 23 (feC (a % P)) (0, 0) _ rfl (Blk.setRow F2' _) Try.underlying23 rfl feInfo) rfl ⟨rfl, (C0.trans1 k).setRowNew (by omega) _⟩
  · go_enter Try.func80, Try.ntmps80
    go_wp2_with (first | (refine wpList_load_row rfl 23 _ rfl (w.heap.size + 1) rfl 23 _ (0, 0) _ F1 Try.underlying23 rfl feInfo ?_))
    refine (canonical_fe b rb _).mono ?_
    rintro e v1 ⟨rfl, k⟩
    have F2' := F2.chg k (by simp)
    go_wp2_with (refine wpList_store_row rfl 23 _ _ rfl (w.heap.size + 1 + 1) _ rfl rfl 23 _ F2' feInfo rfl (feC_one _) ?_)
    exact bodyPost_ret (results_cell_row Try.results80 _ _ (w.heap.size + 1 + 1) 23 (feC (b % P)) (0, 0) _ rfl (Blk.setRow F2' _) Try.underlying23 rfl feInfo) rfl ⟨rfl, (C0.trans1 k).setRowNew (by omega) _⟩

/-- Legendre's symbol, by Euler. -/
def leg (a : Int) : Int := if pw a 28948022309329048855892746252171976963317496166410141009864396001978282409974 = 0 then 0 else if pw a 28948022309329048855892746252171976963317496166410141009864396001978282409974 = 1 then 1 else -1
set_option maxHeartbeats 4000000 in
set_option maxRecDepth 100000 in
/-- Legendre. -/
theorem Legendre_fe (a : Int) (ra : R256 a) (lg : Int) (hlg : lg = leg a) (w : World) :
    Calls Try.prog 20 #[fe a] w fun e w' => e = .returned (.int .i64 lg) ∧ Chg w w' [] := by
  have Hlg : Hid (lg = leg a) := hlg
  clear hlg
  go_enter Try.func20, Try.ntmps20
  go_wp2_with fail
  have hc0 : Chg w ((w.alloc (.cells (feC a) 23)).alloc (.cells #[.int .u64 0, .int .u64 0, .int .u64 0, .int .u64 0, .int .u64 0] 79)) [] := ((Chg.refl w []).alloc (.cells (feC a) 23)).alloc (.cells #[.int .u64 0, .int .u64 0, .int .u64 0, .int .u64 0, .int .u64 0] 79)
  have f0 : Blk ((w.alloc (.cells (feC a) 23)).alloc (.cells #[.int .u64 0, .int .u64 0, .int .u64 0, .int .u64 0, .int .u64 0] 79)) w.heap.size (feC a) 23 := by have h := ((Blk.new w (feC a) 23).alloc (.cells #[.int .u64 0, .int .u64 0, .int .u64 0, .int .u64 0, .int .u64 0] 79)); simpa using h
  have f1 : Nm ((w.alloc (.cells (feC a) 23)).alloc (.cells #[.int .u64 0, .int .u64 0, .int .u64 0, .int .u64 0, .int .u64 0] 79)) (w.heap.size + 1) 0 := by have h := (Nm.new (w.alloc (.cells (feC a) 23))); simpa using h
  generalize hv0 : ((w.alloc (.cells (feC a) 23)).alloc (.cells #[.int .u64 0, .int .u64 0, .int .u64 0, .int .u64 0, .int .u64 0] 79)) = v0 at hc0 f0 f1
  try (change Calls Try.prog _ _ ((w.alloc (.cells (feC a) 23)).alloc (.cells #[.int .u64 0, .int .u64 0, .int .u64 0, .int .u64 0, .int .u64 0] 79)) _; rw [hv0])
  clear hv0
  refine (load_nm (w.heap.size + 1) w.heap.size a 23 v0 ra.1 ra.2 f1.an f0).mono ?_
  rintro e v1 ⟨rfl, q, k⟩
  replace f0 := f0.chg k (by simp)
  clear f1
  have f1' := q
  clear q
  have hc1 := hc0.new k (by omega)
  clear hc0 k
  go_wp2_with fail
  have p1 := f1'
  rw [← pw_one a] at p1
  refine (half_nm (w.heap.size + 1) (w.heap.size + 1) a v1 f1'.an p1).mono ?_
  rintro e v2 ⟨rfl, q, k⟩
  clear p1
  replace f0 := f0.chg k (by simp)
  clear f1'
  have f1'' := q
  clear q
  have hc2 := hc1.new k (by omega)
  clear hc1 k
  go_wp2_with fail
  refine (bytes_nm (w.heap.size + 1) _ v2 f1'').mono ?_
  rintro e v3 ⟨rfl, q, k⟩
  replace f0 := f0.chg k (by simp)
  clear f1''
  have f1''' := q
  clear q
  have hc3 := hc2.new k (by omega)
  clear hc2 k
  have q0 := eqf_eq (r256_pw a 28948022309329048855892746252171976963317496166410141009864396001978282409974) r256_0
  have q1 := eqf_eq (r256_pw a 28948022309329048855892746252171976963317496166410141009864396001978282409974) r256_1
  have hge := feGuard
  have hlg : lg = leg a := Hlg.out
  unfold leg at hlg
  clear Hlg
  by_cases h0 : pw a 28948022309329048855892746252171976963317496166410141009864396001978282409974 = 0
  · rw [if_pos h0] at hlg
    have Hl : Hid (lg = 0) := hlg
    clear hlg
    rw [decide_eq_true h0] at q0
    clear h0 q1
    go_wp2_with (first | (refine wpList_build_fe rfl 23 #[] rfl (feC 0) (by kernel_rfl) ?_))
    go_ret
    exact ⟨by rw [Hl.out]; rfl, hc3⟩
  rw [if_neg h0] at hlg
  by_cases h1 : pw a 28948022309329048855892746252171976963317496166410141009864396001978282409974 = 1
  · rw [if_pos h1] at hlg
    have Hl : Hid (lg = 1) := hlg
    clear hlg
    rw [decide_eq_false h0] at q0
    rw [decide_eq_true h1] at q1
    clear h0 h1
    go_wp2_with (first | (refine wpList_build_fe rfl 23 #[] rfl (feC 0) (by kernel_rfl) ?_) | (refine wpList_build_fe rfl 23 #[(0, .const (.int .u8 1))] rfl (feC 1) (by kernel_rfl) ?_))
    go_ret
    exact ⟨by rw [Hl.out]; rfl, hc3⟩
  · rw [if_neg h1] at hlg
    have Hl : Hid (lg = -1) := hlg
    clear hlg
    rw [decide_eq_false h0] at q0
    rw [decide_eq_false h1] at q1
    clear h0 h1
    go_wp2_with (first | (refine wpList_build_fe rfl 23 #[] rfl (feC 0) (by kernel_rfl) ?_) | (refine wpList_build_fe rfl 23 #[(0, .const (.int .u8 1))] rfl (feC 1) (by kernel_rfl) ?_))
    go_ret
    exact ⟨by rw [Hl.out]; rfl, hc3⟩

set_option maxHeartbeats 4000000 in
set_option maxRecDepth 100000 in
theorem Equal_fe (a b : Int) (ra : R256 a) (rb : R256 b) (w : World) :
    Calls Try.prog 15 #[fe a, fe b] w fun e w' => e = .returned (.bool (eqf (a % P) (b % P))) ∧ Chg w w' [] := by
  have hge := feGuard
  have F0 := (Blk.new w (feC a) 23).alloc (.cells (feC b) 23)
  have F1 : Blk ((w.alloc (.cells (feC a) 23)).alloc (.cells (feC b) 23)) (w.heap.size + 1) (feC b) 23 := by have h := Blk.new (w.alloc (.cells (feC a) 23)) (feC b) 23; simpa using h
  have C0 := ((Chg.refl w []).alloc (.cells (feC a) 23)).alloc (.cells (feC b) 23)
  go_enter Try.func15, Try.ntmps15
  go_wp2_with fail
  generalize (w.alloc (.cells (feC a) 23)).alloc (.cells (feC b) 23) = v0 at *
  refine wp_region_held_drew (S := fun w' => Chg v0 w' []) (by kernel_rfl) ((Chg.refl v0 []).drew) (fun hHeld => ?_)
  refine take_load 0 (some 5) (feC a) rfl (by kernel_rfl) (by kernel_rfl) (by kernel_rfl) (fun _ _ _ h => h) rfl rfl 23 _ rfl w.heap.size rfl 23 _ (fun w h => F0.chg h (by simp)) Try.underlying23 rfl (by first | exact feInfo | kernel_rfl) hHeld ?_
  try simp only [Act.put, List.setIfInBounds_toArray, List.set_cons_zero, List.set_cons_succ]
  refine take_load 2 (some 7) (feC b) rfl (by kernel_rfl) (by kernel_rfl) (by kernel_rfl) (fun _ _ _ h => h) rfl rfl 23 _ rfl (w.heap.size + 1) rfl 23 _ (fun w h => F1.chg h (by simp)) Try.underlying23 rfl (by first | exact feInfo | kernel_rfl) hHeld ?_
  try simp only [Act.put, List.setIfInBounds_toArray, List.set_cons_zero, List.set_cons_succ]
  refine wpAnyH_ready (rs := [1]) (by kernel_rfl) (by simp) ?_
  refine AllReadyH.cons (o := _) rfl (fun K hK => ?_) ?_
  ·
    go_simp
    refine (canonical_fe a ra _).mono ?_
    rintro e v1 ⟨rfl, k⟩
    go_wp2_with fail
    refine hK.out _ _ (hHeld.trans1 k) (fun hHeld => ?_)
    clear hK K
    try simp only [Act.put, List.setIfInBounds_toArray, List.set_cons_zero, List.set_cons_succ]
    refine wpAnyH_ready (rs := [3]) (by kernel_rfl) (by simp) ?_
    refine AllReadyH.cons (o := _) rfl (fun K hK => ?_) ?_
    ·
      go_simp
      refine (canonical_fe b rb _).mono ?_
      rintro e v2 ⟨rfl, k⟩
      go_wp2_with fail
      refine hK.out _ _ (hHeld.trans1 k) (fun hHeld => ?_)
      clear hK K
      try simp only [Act.put, List.setIfInBounds_toArray, List.set_cons_zero, List.set_cons_succ]
      refine take_val (v := ?_) 4 (some 9) rfl (by kernel_rfl) (by kernel_rfl) (by kernel_rfl) (fun _ _ _ h => h) rfl rfl (fun w hSw => ?_) hHeld ?_
      rotate_left
      · (go_simp; try with_reducible rfl)
      try simp only [Act.put, List.setIfInBounds_toArray, List.set_cons_zero, List.set_cons_succ]
      refine take_val (v := ?_) 5 (some 4) rfl (by kernel_rfl) (by kernel_rfl) (by kernel_rfl) (fun _ _ _ h => h) rfl rfl (fun w hSw => ?_) hHeld ?_
      rotate_left
      · (go_simp; try with_reducible rfl)
      try simp only [Act.put, List.setIfInBounds_toArray, List.set_cons_zero, List.set_cons_succ]
      refine wpAnyH_done (by kernel_rfl) ?_ _
      go_wp2
      go_ret
      exact ⟨rfl, C0.trans1 hHeld⟩
    exact AllReadyH.nil
  exact AllReadyH.nil

/-- a, or its opposite, whichever is not negative. -/
def ab (a : Int) : Int := sel (a % P % 2 == 1) a (-a % P) % P
set_option maxHeartbeats 4000000 in
set_option maxRecDepth 100000 in
theorem Abs_fe (a : Int) (ra : R256 a) (w : World) :
    Calls Try.prog 46 #[fe a] w fun e w' => e = .returned (fe (ab a)) ∧ Chg w w' [] := by
  have F0 : Blk ((w.alloc (.cells (feC a) 23)).alloc (.cells z32 23)) w.heap.size (feC a) 23 := (Blk.new w (feC a) 23).alloc _
  have F1 : Blk ((w.alloc (.cells (feC a) 23)).alloc (.cells z32 23)) (w.heap.size + 1) z32 23 := by have h := Blk.new (w.alloc (.cells (feC a) 23)) z32 23; simpa using h
  have C0 : Chg w ((w.alloc (.cells (feC a) 23)).alloc (.cells z32 23)) [] := ((Chg.refl w []).alloc (.cells (feC a) 23)).alloc (.cells z32 23)
  go_enter Try.func46, Try.ntmps46
  go_wp2_with fail
  generalize hv0 : (w.alloc (.cells (feC a) 23)).alloc (.cells z32 23) = v0 at F0 F1 C0
  change Code.wp _ _ _ _ ((w.alloc (.cells (feC a) 23)).alloc (.cells z32 23))
  rw [hv0]
  clear hv0
  refine wp_region_held_drew (S := fun w' => Chg v0 w' [w.heap.size + 1]) (by kernel_rfl) ((Chg.refl v0 _).drew) (fun hHeld => ?_)
  refine take_load 0 (some 3) (feC a) rfl (by kernel_rfl) (by kernel_rfl) (by kernel_rfl) (fun _ _ _ h => h) rfl rfl 23 _ rfl w.heap.size rfl 23 _ (fun w h => F0.chg h (by simp)) Try.underlying23 rfl (by first | exact feInfo | kernel_rfl) hHeld ?_
  try simp only [Act.put, List.setIfInBounds_toArray, List.set_cons_zero, List.set_cons_succ]
  refine take_load 1 (some 4) (feC a) rfl (by kernel_rfl) (by kernel_rfl) (by kernel_rfl) (fun _ _ _ h => h) rfl rfl 23 _ rfl w.heap.size rfl 23 _ (fun w h => F0.chg h (by simp)) Try.underlying23 rfl (by first | exact feInfo | kernel_rfl) hHeld ?_
  try simp only [Act.put, List.setIfInBounds_toArray, List.set_cons_zero, List.set_cons_succ]
  refine take_load 3 (some 6) (feC a) rfl (by kernel_rfl) (by kernel_rfl) (by kernel_rfl) (fun _ _ _ h => h) rfl rfl 23 _ rfl w.heap.size rfl 23 _ (fun w h => F0.chg h (by simp)) Try.underlying23 rfl (by first | exact feInfo | kernel_rfl) hHeld ?_
  try simp only [Act.put, List.setIfInBounds_toArray, List.set_cons_zero, List.set_cons_succ]
  refine wpAnyH_ready (rs := [2]) (by kernel_rfl) (by simp) ?_
  refine AllReadyH.cons (o := _) rfl (fun K hK => ?_) ?_
  ·
    go_simp
    refine (Neg_fe a ra _).mono ?_
    rintro e v1 ⟨rfl, k1⟩
    go_wp2_with fail
    refine hK.out _ _ (hHeld.trans k1 (by simp)) (fun hHeld => ?_)
    clear hK K
    try simp only [Act.put, List.setIfInBounds_toArray, List.set_cons_zero, List.set_cons_succ]
    refine wpAnyH_ready (rs := [4]) (by kernel_rfl) (by simp) ?_
    refine AllReadyH.cons (o := _) rfl (fun K hK => ?_) ?_
    ·
      go_simp
      refine (IsNegative_fe a ra _).mono ?_
      rintro e v2 ⟨rfl, k2⟩
      go_wp2_with fail
      refine hK.out _ _ (hHeld.trans k2 (by simp)) (fun hHeld => ?_)
      clear hK K
      try simp only [Act.put, List.setIfInBounds_toArray, List.set_cons_zero, List.set_cons_succ]
      refine wpAnyH_ready (rs := [5]) (by kernel_rfl) (by simp) ?_
      refine AllReadyH.cons (o := _) rfl (fun K hK => ?_) ?_
      ·
        go_simp
        refine (Select_fe a (-a % P) ra (r256_mod _) _ _).mono ?_
        rintro e v3 ⟨rfl, k3⟩
        go_wp2_with fail
        refine hK.out _ _ (hHeld.trans k3 (by simp)) (fun hHeld => ?_)
        clear hK K
        try simp only [Act.put, List.setIfInBounds_toArray, List.set_cons_zero, List.set_cons_succ]
        refine wpAnyH_ready (rs := [6]) (by kernel_rfl) (by simp) ?_
        refine AllReadyH.cons (o := _) rfl (fun K hK => ?_) ?_
        ·
          have F3 : Blk v3 (w.heap.size + 1) z32 23 := (((F1.drew).chg k1 (by simp)).chg k2 (by simp)).chg k3 (by simp)
          have C3 : Chg w v3 [] := ((C0.drew.trans1 k1).trans1 k2).trans1 k3
          rw [if_pos (by rfl)]
          refine wp_store_row 23 _ _ rfl (w.heap.size + 1) _ rfl rfl 23 _ F3 feInfo rfl (feC_one _) ?_
          refine hK.out _ _ (hHeld.trans1 (Chg.of (gb_setRow (gb_refl v3 _) _))) (fun hHeld => ?_)
          clear hK K
          try simp only [Act.put, List.setIfInBounds_toArray, List.set_cons_zero, List.set_cons_succ]
          refine wpAnyH_done (by kernel_rfl) ?_ _
          go_wp2
          exact bodyPost_ret (results_cell_row Try.results46 _ _ (w.heap.size + 1) 23 (feC (ab a)) (0, 0) _ rfl (Blk.setRow F3 _) Try.underlying23 rfl feInfo) rfl ⟨rfl, C3.setRowNew (by omega) _⟩
        exact AllReadyH.nil
      exact AllReadyH.nil
    exact AllReadyH.nil
  exact AllReadyH.nil
end Go.Proofs.Ytialljmkkichiab
