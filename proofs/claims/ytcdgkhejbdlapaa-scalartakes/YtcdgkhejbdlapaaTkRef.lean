/- rimeref02.Reduce, Canonical, FromInt, Decode. -/
import Derived.Test.YtcdgkhejbdlapaaTkRed
set_option linter.unusedVariables false
set_option linter.unusedSimpArgs false
set_option linter.unnecessarySimpa false
namespace Go.Proofs.Ytcdgkhejbdlapaa
open Go.RowKit N

set_option maxHeartbeats 8000000 in
set_option maxRecDepth 100000 in
theorem Canonical_q (a : Int) (ra : R256 a) (t : Bool) (ht : eqf a (a % L) = t) (w : World) :
    Calls Try.prog 16 #[fe a] w fun e w' => e = .returned (.bool t) ∧ Chg w w' [] := by
  obtain ⟨n, rfl, hn⟩ : ∃ n : Nat, a = (n : Int) ∧ n < 115792089237316195423570985008687907853269984665640564039457584007913129639936 := by
    obtain ⟨n, rfl⟩ := Int.eq_ofNat_of_zero_le ra.1
    exact ⟨n, rfl, by unfold R256 at ra; omega⟩
  obtain ⟨X, hX⟩ : ∃ X, n % LN = X := ⟨_, rfl⟩
  have HX : Hid (n % LN = X) := hX
  have eX : ((X : Nat) : Int) = (n : Int) % L := by rw [← hX, Int.natCast_emod, LN_eq]
  have HT : Hid (eqf (X : Int) (n : Int) = t) := by
    show eqf (X : Int) (n : Int) = t
    rw [← ht, eX, eqf_eq (r256_mod _) ra, eqf_eq ra (r256_mod _)]
    by_cases h : (n : Int) % L = (n : Int)
    · rw [decide_eq_true h, decide_eq_true h.symm]
    · rw [decide_eq_false h, decide_eq_false (fun e => h e.symm)]
  clear hX eX ht
  have F0 : Blk (w.alloc (.cells (feC (n : Int)) 24)) w.heap.size (feC (n : Int)) 24 := Blk.new w _ _
  have CC : Chg w (w.alloc (.cells (feC (n : Int)) 24)) [] := (Chg.refl w []).alloc _
  go_enter Try.func16, Try.ntmps16
  go_wp2_with fail
  generalize hv0 : w.alloc (.cells (feC (n : Int)) 24) = v0 at F0 CC
  try (change Code.wp _ _ _ _ (w.alloc (.cells (feC (n : Int)) 24)); rw [hv0])
  clear hv0
  refine wp_region_held_drew (S := fun w' => Chg v0 w' []) (by kernel_rfl) ((Chg.refl v0 _).drew) (fun hHeld => ?_)
  refine take_load 0 (some 3) (feC (n : Int)) rfl (by kernel_rfl) (by kernel_rfl) (by kernel_rfl) (fun _ _ _ h => h) rfl rfl 24 _ rfl w.heap.size rfl 24 _ (fun w h => F0.chg h (by simp)) Try.underlying24 rfl (by first | exact feInfo | kernel_rfl) hHeld ?_
  try simp only [Act.put, List.setIfInBounds_toArray, List.set_cons_zero, List.set_cons_succ]
  refine take_load 3 (some 6) (feC (n : Int)) rfl (by kernel_rfl) (by kernel_rfl) (by kernel_rfl) (fun _ _ _ h => h) rfl rfl 24 _ rfl w.heap.size rfl 24 _ (fun w h => F0.chg h (by simp)) Try.underlying24 rfl (by first | exact feInfo | kernel_rfl) hHeld ?_
  try simp only [Act.put, List.setIfInBounds_toArray, List.set_cons_zero, List.set_cons_succ]
  refine wpAnyH_ready (rs := [1]) (by kernel_rfl) (by simp) ?_
  refine AllReadyH.cons (o := _) rfl (fun K hK => ?_) ?_
  ·
    go_simp
    refine (Value_r n hn _).mono ?_
    rintro e x1 ⟨rfl, k⟩
    rw [HX.out]
    go_wp2_with fail
    refine hK.out _ _ (hHeld.trans1 k) (fun hHeld => ?_)
    clear hK K
    try simp only [Act.put, List.setIfInBounds_toArray, List.set_cons_zero, List.set_cons_succ]
    refine wpAnyH_ready (rs := [2]) (by kernel_rfl) (by simp) ?_
    refine AllReadyH.cons (o := _) rfl (fun K hK => ?_) ?_
    ·
      go_simp
      refine (Back_r X _).mono ?_
      rintro e x2 ⟨rfl, k⟩
      go_wp2_with fail
      refine hK.out _ _ (hHeld.trans1 k) (fun hHeld => ?_)
      clear hK K
      try simp only [Act.put, List.setIfInBounds_toArray, List.set_cons_zero, List.set_cons_succ]
      refine take_val (v := (.bool t)) 4 (some 7) rfl (by kernel_rfl) (by kernel_rfl) (by kernel_rfl) (fun _ _ _ h => h) rfl rfl (fun w hSw => ?_) hHeld ?_
      · have hge := feGuard
        (go_simp; try (rw [HT.out]))
      try simp only [Act.put, List.setIfInBounds_toArray, List.set_cons_zero, List.set_cons_succ]
      refine take_val (v := ?_) 5 (some 2) rfl (by kernel_rfl) (by kernel_rfl) (by kernel_rfl) (fun _ _ _ h => h) rfl rfl (fun w hSw => ?_) hHeld ?_
      rotate_left
      · (go_simp; try with_reducible rfl)
      try simp only [Act.put, List.setIfInBounds_toArray, List.set_cons_zero, List.set_cons_succ]
      refine wpAnyH_done (by kernel_rfl) ?_ _
      go_wp2_with fail
      go_ret
      exact ⟨rfl, CC.trans1 hHeld⟩
    exact AllReadyH.nil
  exact AllReadyH.nil

set_option maxHeartbeats 8000000 in
set_option maxRecDepth 100000 in
/-- Decode of 32 bytes. -/
theorem Decode_r32 (g o cap : Nat) (b : Nat → Nat) (hlen : 32 ≤ cap) (hcap : cap ≤ 9223372036854775807) (a : Int) (ha : a = ((nb b 0 32 : Nat) : Int)) (ra : R256 a) (t : Bool) (ht : eqf a (a % L) = t) (w : World) (he : Bs w g o 32 b) :
    Calls Try.prog 11 #[.slice (some ⟨g, o, none⟩) 32 cap] w fun e w' => e = .returned (.tuple #[fe (if t then a else 0), .int .i64 (if t then 0 else 21)]) ∧ Chg w w' [] := by
  have hg := he.lt
  have F0 : Blk ((w.alloc (.cells z32 24)).alloc (.cells z32 24)) w.heap.size z32 24 := (Blk.new w z32 24).alloc _
  have F1 : Blk ((w.alloc (.cells z32 24)).alloc (.cells z32 24)) (w.heap.size + 1) z32 24 := by have h := Blk.new (w.alloc (.cells z32 24)) z32 24; simpa using h
  have C0 : Chg w ((w.alloc (.cells z32 24)).alloc (.cells z32 24)) [] := ((Chg.refl w []).alloc _).alloc _
  replace he := (he.alloc (.cells z32 24)).alloc (.cells z32 24)
  go_enter Try.func11, Try.ntmps11
  go_wp2_with fail
  have hbd : ∀ j, 0 ≤ j → j < 0 + 32 → b j < 256 := fun j _ h2 => he.bd j (by omega)
  have hln : (pieceL b 0 32).length = 32 := by simp [pieceL]
  have hrun := run_copy_row (P := Try.prog) ((w.alloc (.cells z32 24)).alloc (.cells z32 24)) 22 22 3 5 (w.heap.size + 1) 0 32 32 ⟨g, o, none⟩ 32 cap z32 24 (pieceL b 0 32) (by kernel_rfl) (by kernel_rfl) F1 (by rw [hln]; rfl)
    (fun j v hv => by
      obtain ⟨hj, rfl⟩ := piece_cell _ _ _ _ _ hv
      have := he.cell j hj
      have ha : (Addr.add ⟨g, o, none⟩ j) = ⟨g, o + j, none⟩ := by
        by_cases h0 : j = 0
        · subst h0; simp [Addr.add]
        · simp [Addr.add, h0]
      rw [ha, Nat.zero_add]
      exact this) (by rw [hln]; decide) (piece_one _ _ _)
  rw [List.append_assoc, piece_row b 0 32 (by decide) hbd, ← ha] at hrun
  change Oper.upon _ _ _ _ _ ((Sem.run Try.prog _ ((w.alloc (.cells z32 24)).alloc (.cells z32 24))).andThen _)
  rw [hrun]
  replace F0 : Blk (((w.alloc (.cells z32 24)).alloc (.cells z32 24)).setRow (w.heap.size + 1) (feC a)) w.heap.size z32 24 := F0.setRowOther (by omega) _
  replace F1 : Blk (((w.alloc (.cells z32 24)).alloc (.cells z32 24)).setRow (w.heap.size + 1) (feC a)) (w.heap.size + 1) (feC a) 24 := F1.setRow _
  replace C0 : Chg w (((w.alloc (.cells z32 24)).alloc (.cells z32 24)).setRow (w.heap.size + 1) (feC a)) [] := C0.setRowNew (by omega) _
  clear hrun he hbd hln ha
  generalize ((w.alloc (.cells z32 24)).alloc (.cells z32 24)).setRow (w.heap.size + 1) (feC a) = v0 at *
  go_wp2_with (refine wpList_load_row rfl 24 _ rfl (w.heap.size + 1) rfl 24 _ (0, 0) _ F1 Try.underlying24 rfl feInfo ?_)
  refine (Canonical_q a ra t ht _).mono ?_
  rintro e v1 ⟨rfl, k⟩
  replace F0 := F0.chg k (by simp)
  replace F1 := F1.chg k (by simp)
  replace C0 := C0.trans1 k
  clear k
  cases t with
  | true =>
    go_wp2_with (first | (refine wpList_load_row rfl 24 _ rfl (w.heap.size + 1) rfl 24 _ (0, 0) _ F1 Try.underlying24 rfl feInfo ?_) | (refine wpList_store_row rfl 24 _ _ rfl w.heap.size _ rfl rfl 24 _ F0 feInfo rfl (feC_one _) ?_))
    exact bodyPost_ret (results_cell_tmp Try.results11 _ _ w.heap.size 24 (feC a) _ _ rfl rfl (Blk.setRow F0 _) Try.underlying24 rfl feInfo) rfl ⟨rfl, C0.setRowNew (Nat.le_refl _) _⟩
  | false =>
    go_wp2_with (first | (refine gl_build (by rfl) 24 #[] rfl (feC 0) (by kernel_rfl) ?_) | (refine wpList_store_row rfl 24 _ _ rfl w.heap.size _ rfl rfl 24 _ F0 feInfo rfl (feC_one _) ?_))
    exact bodyPost_ret (results_cell_tmp Try.results11 _ _ w.heap.size 24 (feC 0) _ _ rfl rfl (Blk.setRow F0 _) Try.underlying24 rfl feInfo) rfl ⟨rfl, C0.setRowNew (Nat.le_refl _) _⟩
set_option maxHeartbeats 8000000 in
set_option maxRecDepth 100000 in
theorem Decode_rlen (p : Option Addr) (len cap : Nat) (h : ¬ len = 32) (w : World) :
    Calls Try.prog 11 #[.slice p len cap] w fun e w' => e = .returned (.tuple #[fe 0, .int .i64 3]) ∧ Chg w w' [] := by
  have h' : ¬ (len : Int) = 32 := by omega
  have F0 := Blk.new w z32 24
  have hc := (Chg.refl w []).alloc (.cells z32 24)
  go_enter Try.func11, Try.ntmps11
  go_wp2_with (first | (refine gl_build (by rfl) 24 #[] rfl (feC 0) (by kernel_rfl) ?_) | (refine wpList_store_row rfl 24 _ _ rfl w.heap.size _ rfl rfl 24 _ F0 feInfo rfl (feC_one _) ?_))
  exact bodyPost_ret (results_cell_tmp Try.results11 _ _ w.heap.size 24 (feC 0) _ _ rfl rfl (Blk.setRow F0 _) Try.underlying24 rfl feInfo) rfl ⟨rfl, hc.setRowNew (Nat.le_refl _) _⟩

theorem by8_u64 (n i : Nat) (hi : i < 8) : ((n : Int) / 2 ^ (8 * i)) % 256 = by8 (n : Int) i := by
  unfold by8
  rw [show (256 : Int) ^ i = 2 ^ (8 * i) from by rw [Int.pow_mul]; rfl]
theorem by8_high (n i : Nat) (hn : n < 18446744073709551616) (hi : 8 ≤ i) : by8 (n : Int) i = 0 := by
  rw [by8_nat]
  have h : 256 ^ 8 ≤ 256 ^ i := Nat.pow_le_pow_right (by decide) hi
  rw [Nat.div_eq_of_lt (by omega)]
  rfl
set_option maxHeartbeats 8000000 in
set_option maxRecDepth 100000 in
theorem FromInt_r (n : Nat) (hn : n < 18446744073709551616) (w : World) :
    Calls Try.prog 18 #[.int .u64 (n : Int)] w fun e w' => e = .returned (fe (n : Int)) ∧ Chg w w' [] := by
  have B1 : Blk ((w.alloc (.cells z32 24)).alloc (.cells z32 24)) w.heap.size z32 24 := (Blk.new w z32 24).alloc _
  have B2 : Blk ((w.alloc (.cells z32 24)).alloc (.cells z32 24)) (w.heap.size + 1) z32 24 := by have h := Blk.new (w.alloc (.cells z32 24)) z32 24; simpa using h
  have C0 : Chg w ((w.alloc (.cells z32 24)).alloc (.cells z32 24)) [] := ((Chg.refl w []).alloc _).alloc _
  rw [show z32 = b32 (bx (n : Int) 0) from b32_z32.symm] at B2
  go_enter Try.func18, Try.ntmps18
  go_wp2_with fail
  go_loopw [4] (fun t wr => ∃ i : Nat, i ≤ 8 ∧ t = .int .i64 (i : Int) ∧ Blk wr w.heap.size z32 24 ∧ Blk wr (w.heap.size + 1) (b32 (bx (n : Int) i)) 24 ∧ Chg w wr []) (fun t _ => (8 - intOf t).toNat)
  case atStart => exact ⟨0, by omega, rfl, B1, B2, C0⟩
  case round =>
    obtain ⟨i, hi, rfl, b1, b2, c0⟩ := hrel
    clear B1 B2 C0
    by_cases h8 : i < 8
    · have hI : (i : Int) < 8 := by omega
      have hI3 : (i : Int) < 32 := by omega
      have hw8 : IntKind.i64.wrap (8 * ((i : Nat) : Int)) = 8 * ((i : Nat) : Int) := by rw [IntKind.wrap_i64]; omega
      have hw : IntKind.u64.wrap (8 * ((i : Nat) : Int)) = 8 * ((i : Nat) : Int) := by rw [IntKind.wrap_u64]; omega
      have htn : (8 * ((i : Nat) : Int)).toNat = 8 * i := by omega
      have hmi : min (8 * i) 64 = 8 * i := by omega
      have cB := (b2.cell i).trans (b32_get _ i (by omega))
      have fB := b2.frozen i
      have hv := by8_u64 n i h8
      have b2n : Blk (wr.setCell ⟨w.heap.size + 1, i, none⟩ (.int .u8 (by8 (n : Int) i))) (w.heap.size + 1) (b32 (bx (n : Int) (i + 1))) 24 := (b2.setCell i _).to (b32_set _ _ _ _ (fun j _ => bx_step _ _ _))
      have b1n := b1.setOther (show ¬ w.heap.size = w.heap.size + 1 by omega) i (.int .u8 (by8 (n : Int) i))
      have cn := c0.setNew (show w.heap.size ≤ w.heap.size + 1 by omega) i (.int .u8 (by8 (n : Int) i))
      clear b1 b2 c0
      go_wp2_with fail
      exact ⟨⟨i + 1, by omega, by go_num, b1n, b2n, cn⟩, by simp [intOf]; omega⟩
    · have h9 : i = 8 := by omega
      subst h9
      rw [b32_fe (n : Int) (bx (n : Int) 8) (fun j hj => by unfold bx; split; rfl; exact (by8_high n j hn (by omega)).symm)] at b2
      go_wp2_with (first | (refine wpList_load_row rfl 24 _ rfl (w.heap.size + 1) rfl 24 _ (0, 0) _ b2 Try.underlying24 rfl feInfo ?_) | (refine wpList_store_row rfl 24 _ _ rfl w.heap.size _ rfl rfl 24 _ b1 feInfo rfl (feC_one _) ?_))
      exact bodyPost_ret (results_cell_row Try.results18 _ _ w.heap.size 24 (feC (n : Int)) (0, 0) _ rfl (Blk.setRow b1 _) Try.underlying24 rfl feInfo) rfl ⟨rfl, c0.setRowNew (Nat.le_refl _) _⟩

/-- What Decode answers of n bytes f: the number. -/
def dX (n : Nat) (f : Nat → Nat) : Int := if n = 32 then (if eqf ((nb f 0 32 : Nat) : Int) (((nb f 0 32 : Nat) : Int) % L) then ((nb f 0 32 : Nat) : Int) else 0) else 0
/-- What Decode answers of n bytes f: the error's number. -/
def dE (n : Nat) (f : Nat → Nat) : Int := if n = 32 then (if eqf ((nb f 0 32 : Nat) : Int) (((nb f 0 32 : Nat) : Int) % L) then 0 else 21) else 3
theorem dX_len {n : Nat} (f : Nat → Nat) (h : ¬ n = 32) : dX n f = 0 := if_neg h
theorem dE_len {n : Nat} (f : Nat → Nat) (h : ¬ n = 32) : dE n f = 3 := if_neg h
theorem nb_r256 (f : Nat → Nat) (h : ∀ i, i < 32 → f i < 256) : R256 ((nb f 0 32 : Nat) : Int) := by
  have := nb_lt f 32 0 (fun j _ hj => h j (by omega))
  unfold R256
  omega
theorem Decode_o (g o cap n : Nat) (f : Nat → Nat) (hlen : n ≤ cap) (hcap : cap ≤ 9223372036854775807) (w : World) (he : Bs w g o n f) :
    Calls Try.prog 10 #[.slice (some ⟨g, o, none⟩) n cap] w fun e w' => e = .returned (.tuple #[fe (dX n f), .int .i64 (dE n f)]) ∧ Chg w w' [] := by
  by_cases h : n = 32
  · subst h
    exact Decode_32 g o cap f hlen hcap _ rfl (nb_r256 f he.bd) _ rfl w he
  · rw [dX_len f h, dE_len f h]
    exact Decode_len _ n cap h w
theorem Decode_rs (v : Value) (n : Nat) (f : Nat → Nat) (w : World) (hS : Sl w v n f) :
    Calls Try.prog 11 #[v] w fun e w' => e = .returned (.tuple #[fe (dX n f), .int .i64 (dE n f)]) ∧ Chg w w' [] := by
  rcases hS with ⟨rfl, rfl⟩ | ⟨g, o, cap, rfl, hlen, hcap, he⟩
  · exact Decode_rlen none 0 0 (by decide) w
  · by_cases h : n = 32
    · subst h
      exact Decode_r32 g o cap f hlen hcap _ rfl (nb_r256 f he.bd) _ rfl w he
    · rw [dX_len f h, dE_len f h]
      exact Decode_rlen _ n cap h w
theorem nb_gvf32 (f : Nat → Nat) : nb (gvf f 32) 0 32 = nb f 0 32 := nb_gvf f 32
theorem dX_gvf (n : Nat) (f : Nat → Nat) : dX n (gvf f n) = dX n f := by
  by_cases h : n = 32
  · subst h; unfold dX; rw [nb_gvf32]
  · rw [dX_len _ h, dX_len _ h]
theorem dE_gvf (n : Nat) (f : Nat → Nat) : dE n (gvf f n) = dE n f := by
  by_cases h : n = 32
  · subst h; unfold dE; rw [nb_gvf32]
  · rw [dE_len _ h, dE_len _ h]

set_option maxHeartbeats 8000000 in
set_option maxRecDepth 100000 in
theorem digits_nil (w : World) :
    Calls Try.prog 64 #[.slice none 0 0] w fun e w' => ∃ h, e = .returned (.slice (some ⟨h, 0, none⟩) 0 0) ∧ w.heap.size ≤ h ∧ Blk w' h (uC 0 fun _ => 0) 95 ∧ Chg w w' [] := by
  have hmk := mkU 0 (by omega)
  have B1 := Blk.new w (uC 0 fun _ => 0) 95
  have C0 := (Chg.refl w []).alloc (.cells (uC 0 fun _ => 0) 95)
  rw [show ((0 : Nat) : Int) = 0 from rfl] at hmk
  go_enter Try.func64, Try.ntmps64
  go_wp2_with fail
  clear hmk
  go_loopw [4] (fun t wr => t = .int .i64 0 ∧ Blk wr w.heap.size (uC 0 fun _ => 0) 95 ∧ Chg w wr []) (fun t _ => 0)
  case atStart => exact ⟨rfl, B1, C0⟩
  case round =>
    obtain ⟨rfl, b1, c0⟩ := hrel
    clear B1 C0
    go_wp2
    go_ret
    exact ⟨w.heap.size, rfl, Nat.le_refl _, b1, c0⟩
theorem digits_rs (v : Value) (n : Nat) (f : Nat → Nat) (hn : n ≤ 140737488355328) (w : World) (hS : Sl w v n f) :
    Calls Try.prog 64 #[v] w fun e w' => ∃ h, e = .returned (.slice (some ⟨h, 0, none⟩) ((n + 3) / 4) ((n + 3) / 4)) ∧ Us w' h 0 ((n + 3) / 4) (dfk f n) ∧ Chg w w' [] := by
  rcases hS with ⟨rfl, rfl⟩ | ⟨g, o, cap, rfl, _, _, hb⟩
  · refine (digits_nil w).mono ?_
    rintro e w' ⟨h, rfl, _, b, k⟩
    exact ⟨h, rfl, ⟨b.lt, fun i hi => by omega, fun i hi => by omega⟩, k⟩
  · refine (digits_r g o n cap f hn w hb).mono ?_
    rintro e w' ⟨h, rfl, _, b, k⟩
    exact ⟨h, rfl, Us.of b (fun i _ => dfk_lt _ _ _ (fun j hj => hb.bd j hj)), k⟩
attribute [local irreducible] nb LN
set_option maxHeartbeats 8000000 in
set_option maxRecDepth 100000 in
theorem Reduce_rs (v : Value) (n : Nat) (f : Nat → Nat) (hn : n ≤ 140737488355328) (w : World) (hS : Sl w v n f) (X : Nat) (hX : nb f 0 n % LN = X) :
    Calls Try.prog 14 #[v] w fun e w' => e = .returned (fe ((X : Nat) : Int)) ∧ Chg w w' [] := by
  have HX : Hid (nv (dfk f n) 0 ((n + 3) / 4) % LN = X) := by show nv (dfk f n) 0 ((n + 3) / 4) % LN = X; rw [nv_digits, hX]
  clear hX
  have F0 : Blk (w.alloc (.cells z32 24)) w.heap.size z32 24 := Blk.new w _ _
  have CC : Chg w (w.alloc (.cells z32 24)) [] := (Chg.refl w []).alloc _
  replace hS := hS.chg CC (hS.new _ (by simp))
  obtain ⟨m, hm⟩ : ∃ m, (n + 3) / 4 = m := ⟨_, rfl⟩
  have hml : m ≤ 140737488355328 := by omega
  go_enter Try.func14, Try.ntmps14
  go_wp2_with fail
  refine (digits_rs v n f hn _ hS).mono ?_
  rintro e v1 ⟨h, rfl, us, k⟩
  rw [hm] at us HX ⊢
  clear hm
  replace F0 := F0.chg k (by simp)
  replace CC := CC.trans1 k
  clear k
  go_wp2_with fail
  refine (mod_r h 0 m m _ hml _ us).mono ?_
  rintro e v2 ⟨rfl, k⟩
  rw [HX.out]
  replace F0 := F0.chg k (by simp)
  replace CC := CC.trans1 k
  clear k
  go_wp2_with fail
  refine (Back_r X _).mono ?_
  rintro e v3 ⟨rfl, k⟩
  replace F0 := F0.chg k (by simp)
  replace CC := CC.trans1 k
  clear k
  go_wp2_with (refine wpList_store_row rfl 24 _ _ rfl w.heap.size _ rfl rfl 24 _ F0 feInfo rfl (feC_one _) ?_)
  exact bodyPost_ret (results_cell_row Try.results14 _ _ w.heap.size 24 (feC (X : Int)) (0, 0) _ rfl (Blk.setRow F0 _) Try.underlying24 rfl feInfo) rfl ⟨rfl, CC.setRowNew (Nat.le_refl _) _⟩

end Go.Proofs.Ytcdgkhejbdlapaa
