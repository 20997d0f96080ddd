/- Layer 1, for FieldBytes: FBy1, FBy2. -/
import Derived.Test.YtialljmkkichiaaFun7
import Derived.Test.YtialljmkkichiaaRRed
import Derived.Test.YtialljmkkichiaaByt
set_option linter.unusedVariables false
set_option linter.unusedSimpArgs false
set_option linter.unnecessarySimpa false
namespace Go.Proofs.Ytialljmkkichiaa
section
open Go.RowKit N

set_option maxHeartbeats 4000000 in
set_option maxRecDepth 100000 in
/-- rimeref01.Decode of 32 bytes. -/
theorem Decode_r32 (g o cap : Nat) (b : Nat → Nat) (hlen : 32 ≤ cap) (hcap : cap ≤ 9223372036854775807) (a : Int) (ha : a = ((nb b 0 32 : Nat) : Int)) (ra : R256 a) (t : Bool) (ht : eqf (a % P) a = t) (w : World) (he : Bs w g o 32 b) :
    Calls Try.prog 11 #[.slice (some ⟨g, o, none⟩) 32 cap] w fun e w' => e = .returned (.tuple #[fe (if t then a else 0), .int .i64 (if t then 0 else 11)]) ∧ Chg w w' [] := by
  have hg := he.lt
  have F0 : Blk ((w.alloc (.cells z32 24)).alloc (.cells z32 24)) w.heap.size z32 24 := (Blk.new w z32 24).alloc _
  have F1 : Blk ((w.alloc (.cells z32 24)).alloc (.cells z32 24)) (w.heap.size + 1) z32 24 := by have h := Blk.new (w.alloc (.cells z32 24)) z32 24; simpa using h
  have C0 : Chg w ((w.alloc (.cells z32 24)).alloc (.cells z32 24)) [] := ((Chg.refl w []).alloc _).alloc _
  replace he := (he.alloc (.cells z32 24)).alloc (.cells z32 24)
  go_enter Try.func11, Try.ntmps11
  go_wp2_with fail
  have hbd : ∀ j, 0 ≤ j → j < 0 + 32 → b j < 256 := fun j _ h2 => he.bd j (by omega)
  have hln : (pieceL b 0 32).length = 32 := by simp [pieceL]
  have hrun := run_copy_row (P := Try.prog) ((w.alloc (.cells z32 24)).alloc (.cells z32 24)) 22 22 3 5 (w.heap.size + 1) 0 32 32 ⟨g, o, none⟩ 32 cap z32 24 (pieceL b 0 32) (by kernel_rfl) (by kernel_rfl) F1 (by rw [hln]; rfl)
    (fun j v hv => by
      obtain ⟨hj, rfl⟩ := piece_cell _ _ _ _ _ hv
      have := he.cell j hj
      have ha : (Addr.add ⟨g, o, none⟩ j) = ⟨g, o + j, none⟩ := by
        by_cases h0 : j = 0
        · subst h0; simp [Addr.add]
        · simp [Addr.add, h0]
      rw [ha, Nat.zero_add]
      exact this) (by rw [hln]; decide) (piece_one _ _ _)
  rw [List.append_assoc, piece_row b 0 32 (by decide) hbd, ← ha] at hrun
  change Oper.upon _ _ _ _ _ ((Sem.run Try.prog _ ((w.alloc (.cells z32 24)).alloc (.cells z32 24))).andThen _)
  rw [hrun]
  replace F0 : Blk (((w.alloc (.cells z32 24)).alloc (.cells z32 24)).setRow (w.heap.size + 1) (feC a)) w.heap.size z32 24 := F0.setRowOther (by omega) _
  replace F1 : Blk (((w.alloc (.cells z32 24)).alloc (.cells z32 24)).setRow (w.heap.size + 1) (feC a)) (w.heap.size + 1) (feC a) 24 := F1.setRow _
  replace C0 : Chg w (((w.alloc (.cells z32 24)).alloc (.cells z32 24)).setRow (w.heap.size + 1) (feC a)) [] := C0.setRowNew (by omega) _
  clear hrun he hbd hln ha
  generalize ((w.alloc (.cells z32 24)).alloc (.cells z32 24)).setRow (w.heap.size + 1) (feC a) = v0 at *
  go_wp2_with (refine wpList_load_row rfl 24 _ rfl (w.heap.size + 1) rfl 24 _ (0, 0) _ F1 Try.underlying24 rfl feInfo ?_)
  refine (Canonical_r a ra _).mono ?_
  rintro e v1 ⟨rfl, k⟩
  replace F0 := F0.chg k (by simp)
  replace F1 := F1.chg k (by simp)
  replace C0 := C0.trans1 k
  rw [ht]
  clear k
  cases t with
  | true =>
    go_wp2_with (first | (refine wpList_load_row rfl 24 _ rfl (w.heap.size + 1) rfl 24 _ (0, 0) _ F1 Try.underlying24 rfl feInfo ?_) | (refine wpList_store_row rfl 24 _ _ rfl w.heap.size _ rfl rfl 24 _ F0 feInfo rfl (feC_one _) ?_))
    exact bodyPost_ret (results_ct Try.results11 _ _ w.heap.size 24 (feC a) _ _ rfl rfl (Blk.setRow F0 _) Try.underlying24 rfl feInfo) rfl ⟨rfl, C0.setRowNew (Nat.le_refl _) _⟩
  | false =>
    go_wp2_with (first | (refine wpList_build_fe rfl 24 #[] rfl (feC 0) (by kernel_rfl) ?_) | (refine wpList_store_row rfl 24 _ _ rfl w.heap.size _ rfl rfl 24 _ F0 feInfo rfl (feC_one _) ?_))
    exact bodyPost_ret (results_ct Try.results11 _ _ w.heap.size 24 (feC 0) _ _ rfl rfl (Blk.setRow F0 _) Try.underlying24 rfl feInfo) rfl ⟨rfl, C0.setRowNew (Nat.le_refl _) _⟩
set_option maxHeartbeats 4000000 in
set_option maxRecDepth 100000 in
theorem Decode_flen (p : Option Addr) (n c : Nat) (w : World) (hn : ¬ n = 32) : Calls Try.prog 9 #[.slice p n c] w fun e w' => e = .returned (.tuple #[fe 0, .int .i64 3]) ∧ Chg w w' [] := by
  have hI : ¬ (n : Int) = 32 := by omega
  have F0 := Blk.new w z32 24
  have C0 := (Chg.refl w []).alloc (.cells z32 24)
  go_enter Try.func9, Try.ntmps9
  go_wp2_with (first | (refine wpList_build_fe rfl 24 #[] rfl (feC 0) (by kernel_rfl) ?_) | (refine wpList_store_row rfl 24 _ _ rfl w.heap.size _ rfl rfl 24 _ F0 feInfo rfl (feC_one _) ?_))
  exact bodyPost_ret (results_ct Try.results9 _ _ w.heap.size 24 (feC 0) _ _ rfl rfl (Blk.setRow F0 _) Try.underlying24 rfl feInfo) rfl ⟨rfl, C0.setRowNew (Nat.le_refl _) _⟩
set_option maxHeartbeats 4000000 in
set_option maxRecDepth 100000 in
theorem Decode_rlen (p : Option Addr) (n c : Nat) (w : World) (hn : ¬ n = 32) : Calls Try.prog 11 #[.slice p n c] w fun e w' => e = .returned (.tuple #[fe 0, .int .i64 3]) ∧ Chg w w' [] := by
  have hI : ¬ (n : Int) = 32 := by omega
  have F0 := Blk.new w z32 24
  have C0 := (Chg.refl w []).alloc (.cells z32 24)
  go_enter Try.func11, Try.ntmps11
  go_wp2_with (first | (refine wpList_build_fe rfl 24 #[] rfl (feC 0) (by kernel_rfl) ?_) | (refine wpList_store_row rfl 24 _ _ rfl w.heap.size _ rfl rfl 24 _ F0 feInfo rfl (feC_one _) ?_))
  exact bodyPost_ret (results_ct Try.results11 _ _ w.heap.size 24 (feC 0) _ _ rfl rfl (Blk.setRow F0 _) Try.underlying24 rfl feInfo) rfl ⟨rfl, C0.setRowNew (Nat.le_refl _) _⟩
set_option maxHeartbeats 8000000 in
set_option maxRecDepth 100000 in
theorem digits_rnil (w : World) :
    Calls Try.prog 69 #[.slice none 0 0] w fun e w' => ∃ h, e = .returned (.slice (some ⟨h, 0, none⟩) 0 0) ∧ w.heap.size ≤ h ∧ Blk w' h (uC 0 fun _ => 0) 25 ∧ Chg w w' [] := by
  have hmk := mkU 0 (by omega)
  have B1 := Blk.new w (uC 0 fun _ => 0) 25
  have C0 := (Chg.refl w []).alloc (.cells (uC 0 fun _ => 0) 25)
  rw [show ((0 : Nat) : Int) = 0 from rfl] at hmk
  go_enter Try.func69, Try.ntmps69
  go_wp2_with fail
  clear hmk
  go_loopw [4] (fun t wr => t = .int .i64 0 ∧ Blk wr w.heap.size (uC 0 fun _ => 0) 25 ∧ Chg w wr []) (fun t _ => 0)
  case atStart => exact ⟨rfl, B1, C0⟩
  case round =>
    obtain ⟨rfl, b1, c0⟩ := hrel
    clear B1 C0
    go_wp2
    go_ret
    exact ⟨w.heap.size, rfl, Nat.le_refl _, b1, c0⟩
set_option maxHeartbeats 4000000 in
set_option maxRecDepth 100000 in
theorem Reduce_rnil (w : World) : Calls Try.prog 14 #[.slice none 0 0] w fun e w' => e = .returned (fe 0) ∧ Chg w w' [] := by
  have B0 := Blk.new w z32 24
  have C0 := (Chg.refl w []).alloc (.cells z32 24)
  go_enter Try.func14, Try.ntmps14
  go_wp2_with fail
  refine (digits_rnil _).mono ?_
  rintro e v1 ⟨h, rfl, hh, bh, k⟩
  replace B0 := B0.chg k (by simp)
  replace C0 := C0.trans1 k
  clear k
  go_wp2_with fail
  refine (mod_all 0 h 0 0 (fun _ => 0) (Nat.le_refl _) (by omega) (fun i hi => by omega) _ (Us.of bh)).mono ?_
  rintro e v2 ⟨rfl, k⟩
  replace B0 := B0.chg k (by simp)
  replace C0 := C0.trans1 k
  clear k bh
  go_wp2_with fail
  refine (Back_r _ _).mono ?_
  rintro e v3 ⟨rfl, k⟩
  replace B0 := B0.chg k (by simp)
  replace C0 := C0.trans1 k
  clear k
  rw [show ((nv (fun _ => 0) 0 0 % PM : Nat) : Int) = 0 by simp [nv]]
  go_wp2_with (refine wpList_store_row rfl 24 _ _ rfl w.heap.size _ rfl rfl 24 _ B0 feInfo rfl (feC_one _) ?_)
  exact bodyPost_ret (results_cell_row Try.results14 _ _ w.heap.size 24 (feC 0) (0, 0) _ rfl (Blk.setRow B0 _) Try.underlying24 rfl feInfo) rfl ⟨rfl, C0.setRowNew (Nat.le_refl _) _⟩
end
section
open Go.RowKit N

theorem sl_form' {w : World} {v : Value} {n : Nat} {f : Nat → Nat} (h : Sl w v n f) : ∃ p c, v = .slice p n c := by
  rcases h with ⟨rfl, e⟩ | ⟨g, o, c, e, _⟩
  · exact ⟨_, _, e⟩
  · exact ⟨_, _, e⟩
theorem decode_both (n : Nat) (f : Nat → Nat) (hf : ∀ i, i < n → f i < 256) (hn : n ≤ 1048576) : ∃ X E : Int, (∀ w o, Bs w o 0 n f → Calls Try.prog 9 #[.slice (some ⟨o, 0, none⟩) n (n + 3)] w fun e w' => e = .returned (.tuple #[fe X, .int .i64 E]) ∧ Chg w w' []) ∧
    (∀ w v, Sl w v n f → Calls Try.prog 11 #[v] w fun e w' => e = .returned (.tuple #[fe X, .int .i64 E]) ∧ Chg w w' []) := by
  by_cases h : n = 32
  · subst h
    have hl : nb f 0 32 < 256 ^ 32 := nb_lt f 32 0 (fun j _ h2 => hf j (by omega))
    have e32 : (256 : Nat) ^ 32 = 115792089237316195423570985008687907853269984665640564039457584007913129639936 := by decide
    rw [e32] at hl
    have ra : R256 ((nb f 0 32 : Nat) : Int) := by
      generalize nb f 0 32 = q at *
      exact ⟨by omega, by omega⟩
    have rm : R256 (((nb f 0 32 : Nat) : Int) % P) := ⟨Int.emod_nonneg _ (by unfold P; decide), by have := Int.emod_lt_of_pos ((nb f 0 32 : Nat) : Int) (show 0 < P by unfold P; decide); unfold P at this ⊢; omega⟩
    have hc : eqf (((nb f 0 32 : Nat) : Int) % P) ((nb f 0 32 : Nat) : Int) = eqf ((nb f 0 32 : Nat) : Int) (((nb f 0 32 : Nat) : Int) % P) := by
      rw [eqf_eq rm ra, eqf_eq ra rm]
      exact decide_eq_decide.2 eq_comm
    clear hl e32 rm hn
    refine ⟨_, _, fun w o hb => Decode_32 o 0 35 f (by decide) (by decide) _ rfl ra _ rfl w hb, fun w v hv => ?_⟩
    rcases hv with ⟨h, _⟩ | ⟨g, o, c, rfl, h1, h2, hb⟩
    · omega
    · exact Decode_r32 g o c f h1 h2 _ rfl ra _ hc w hb
  · refine ⟨0, 3, fun w o _ => Decode_flen _ n _ w h, fun w v hv => ?_⟩
    obtain ⟨p, c, rfl⟩ := sl_form' hv
    exact Decode_rlen p n c w h
theorem reduce_both (n : Nat) (f : Nat → Nat) (hn : n ≤ 1048576) : ∃ Z : Int, (∀ w o, Bs w o 0 n f → Calls Try.prog 13 #[.slice (some ⟨o, 0, none⟩) n (n + 3)] w fun e w' => e = .returned (fe Z) ∧ Chg w w' []) ∧
    (∀ w v, Sl w v n f → Calls Try.prog 14 #[v] w fun e w' => e = .returned (fe Z) ∧ Chg w w' []) := by
  refine ⟨((nb f 0 n : Nat) : Int) % P, fun w o hb => Reduce_fe o 0 n (n + 3) f (by omega) (by omega) w hb, fun w v hv => ?_⟩
  rcases hv with ⟨rfl, rfl⟩ | ⟨g, o, c, rfl, h1, h2, hb⟩
  · have e : ((nb f 0 0 : Nat) : Int) % P = 0 := by simp [nb]
    rw [e]
    exact Reduce_rnil w
  · have e : ((nb f 0 n : Nat) : Int) % P = ((nb f 0 n % PM : Nat) : Int) := by rw [Int.natCast_emod, PM_eq]
    rw [e]
    exact Reduce_rall g o n c f (by omega) w hb
theorem canon_both (a : Int) (ra : R256 a) : ∃ t : Bool, (∀ w, Calls Try.prog 15 #[fe a] w fun e w' => e = .returned (.bool t) ∧ Chg w w' []) ∧ (∀ w, Calls Try.prog 16 #[fe a] w fun e w' => e = .returned (.bool t) ∧ Chg w w' []) := by
  have rm : R256 (a % P) := ⟨Int.emod_nonneg _ (by unfold P; decide), by have := Int.emod_lt_of_pos a (show 0 < P by unfold P; decide); unfold P at this ⊢; omega⟩
  have hc : eqf (a % P) a = eqf a (a % P) := by
    rw [eqf_eq rm ra, eqf_eq ra rm]
    exact decide_eq_decide.2 eq_comm
  refine ⟨eqf a (a % P), fun w => Canonical_fe a ra w, fun w => ?_⟩
  rw [← hc]
  exact Canonical_r a ra w
end
end Go.Proofs.Ytialljmkkichiaa
