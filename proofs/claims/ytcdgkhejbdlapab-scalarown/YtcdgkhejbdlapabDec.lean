/- scalar.Decode, Compare. -/
import Derived.Test.YtcdgkhejbdlapabPiece
set_option linter.unusedVariables false
set_option linter.unusedSimpArgs false
set_option linter.unnecessarySimpa false
namespace Go.Proofs.Ytcdgkhejbdlapab
open Go.RowKit N

set_option maxHeartbeats 4000000 in
set_option maxRecDepth 100000 in
/-- Decode of 32 bytes. -/
theorem Decode_32 (g o cap : Nat) (b : Nat → Nat) (hlen : 32 ≤ cap) (hcap : cap ≤ 9223372036854775807) (a : Int) (ha : a = ((nb b 0 32 : Nat) : Int)) (ra : R256 a) (t : Bool) (ht : eqf a (a % L) = t) (w : World) (he : Bs w g o 32 b) :
    Calls Try.prog 24 #[.slice (some ⟨g, o, none⟩) 32 cap] w fun e w' => e = .returned (.tuple #[fe (if t then a else 0), .int .i64 (if t then 0 else 21)]) ∧ Chg w w' [] := by
  have hg := he.lt
  have F0 : Blk ((w.alloc (.cells z32 23)).alloc (.cells z32 23)) w.heap.size z32 23 := (Blk.new w z32 23).alloc _
  have F1 : Blk ((w.alloc (.cells z32 23)).alloc (.cells z32 23)) (w.heap.size + 1) z32 23 := by have h := Blk.new (w.alloc (.cells z32 23)) z32 23; simpa using h
  have C0 : Chg w ((w.alloc (.cells z32 23)).alloc (.cells z32 23)) [] := ((Chg.refl w []).alloc _).alloc _
  replace he := (he.alloc (.cells z32 23)).alloc (.cells z32 23)
  go_enter Try.func24, Try.ntmps24
  go_wp2_with fail
  have hbd : ∀ j, 0 ≤ j → j < 0 + 32 → b j < 256 := fun j _ h2 => he.bd j (by omega)
  have hln : (pieceL b 0 32).length = 32 := by simp [pieceL]
  have hrun := run_copy_row (P := Try.prog) ((w.alloc (.cells z32 23)).alloc (.cells z32 23)) 34 34 3 5 (w.heap.size + 1) 0 32 32 ⟨g, o, none⟩ 32 cap z32 23 (pieceL b 0 32) (by kernel_rfl) (by kernel_rfl) F1 (by rw [hln]; rfl)
    (fun j v hv => by
      obtain ⟨hj, rfl⟩ := piece_cell _ _ _ _ _ hv
      have := he.cell j hj
      have ha : (Addr.add ⟨g, o, none⟩ j) = ⟨g, o + j, none⟩ := by
        by_cases h0 : j = 0
        · subst h0; simp [Addr.add]
        · simp [Addr.add, h0]
      rw [ha, Nat.zero_add]
      exact this) (by rw [hln]; decide) (piece_one _ _ _)
  rw [List.append_assoc, piece_row b 0 32 (by decide) hbd, ← ha] at hrun
  change Oper.upon _ _ _ _ _ ((Sem.run Try.prog _ ((w.alloc (.cells z32 23)).alloc (.cells z32 23))).andThen _)
  rw [hrun]
  replace F0 : Blk (((w.alloc (.cells z32 23)).alloc (.cells z32 23)).setRow (w.heap.size + 1) (feC a)) w.heap.size z32 23 := F0.setRowOther (by omega) _
  replace F1 : Blk (((w.alloc (.cells z32 23)).alloc (.cells z32 23)).setRow (w.heap.size + 1) (feC a)) (w.heap.size + 1) (feC a) 23 := F1.setRow _
  replace C0 : Chg w (((w.alloc (.cells z32 23)).alloc (.cells z32 23)).setRow (w.heap.size + 1) (feC a)) [] := C0.setRowNew (by omega) _
  clear hrun he hbd hln ha
  generalize ((w.alloc (.cells z32 23)).alloc (.cells z32 23)).setRow (w.heap.size + 1) (feC a) = v0 at *
  go_wp2_with (refine wpList_load_row rfl 23 _ rfl (w.heap.size + 1) rfl 23 _ (0, 0) _ F1 Try.underlying23 rfl feInfo ?_)
  refine (Canonical_s a ra _).mono ?_
  rintro e v1 ⟨rfl, k⟩
  replace F0 := F0.chg k (by simp)
  replace F1 := F1.chg k (by simp)
  replace C0 := C0.trans1 k
  rw [ht]
  clear k
  cases t with
  | true =>
    go_wp2_with (first | (refine wpList_load_row rfl 23 _ rfl (w.heap.size + 1) rfl 23 _ (0, 0) _ F1 Try.underlying23 rfl feInfo ?_) | (refine wpList_store_row rfl 23 _ _ rfl w.heap.size _ rfl rfl 23 _ F0 feInfo rfl (feC_one _) ?_))
    exact bodyPost_ret (results_cell_tmp Try.results24 _ _ w.heap.size 23 (feC a) _ _ rfl rfl (Blk.setRow F0 _) Try.underlying23 rfl feInfo) rfl ⟨rfl, C0.setRowNew (Nat.le_refl _) _⟩
  | false =>
    go_wp2_with (first | (refine gl_build (by rfl) 23 #[] rfl (feC 0) (by kernel_rfl) ?_) | (refine wpList_store_row rfl 23 _ _ rfl w.heap.size _ rfl rfl 23 _ F0 feInfo rfl (feC_one _) ?_))
    exact bodyPost_ret (results_cell_tmp Try.results24 _ _ w.heap.size 23 (feC 0) _ _ rfl rfl (Blk.setRow F0 _) Try.underlying23 rfl feInfo) rfl ⟨rfl, C0.setRowNew (Nat.le_refl _) _⟩


theorem nb_bofI (a : Int) (ra : R256 a) : ((nb (bof a) 0 32 : Nat) : Int) = a := by
  obtain ⟨n, rfl⟩ := Int.eq_ofNat_of_zero_le ra.1
  rw [nb_bof n (by unfold R256 at ra; omega)]
theorem Decode_arr (g : Nat) (a : Int) (ra : R256 a) (t : Bool) (ht : eqf a (a % L) = t) (T : TypeId) (w : World) (h : Blk w g (feC a) T) :
    Calls Try.prog 24 #[.slice (some ⟨g, 0, none⟩) 32 32] w fun e w' => e = .returned (.tuple #[fe (if t then a else 0), .int .i64 (if t then 0 else 21)]) ∧ Chg w w' [] :=
  Decode_32 g 0 32 (bof a) (by decide) (by decide) a (nb_bofI a ra).symm ra t ht w (Bs.ofFe h)
set_option maxHeartbeats 4000000 in
set_option maxRecDepth 100000 in
theorem Decode_len (p : Option Addr) (len cap : Nat) (h : ¬ len = 32) (w : World) :
    Calls Try.prog 24 #[.slice p len cap] w fun e w' => e = .returned (.tuple #[fe 0, .int .i64 3]) ∧ Chg w w' [] := by
  have h' : ¬ (len : Int) = 32 := by omega
  have F0 := Blk.new w z32 23
  have hc := (Chg.refl w []).alloc (.cells z32 23)
  go_enter Try.func24, Try.ntmps24
  go_wp2_with (first | (refine gl_build (by rfl) 23 #[] rfl (feC 0) (by kernel_rfl) ?_) | (refine wpList_store_row rfl 23 _ _ rfl w.heap.size _ rfl rfl 23 _ F0 feInfo rfl (feC_one _) ?_))
  exact bodyPost_ret (results_cell_tmp Try.results24 _ _ w.heap.size 23 (feC 0) _ _ rfl rfl (Blk.setRow F0 _) Try.underlying23 rfl feInfo) rfl ⟨rfl, hc.setRowNew (Nat.le_refl _) _⟩
/-- -1, 0, 1. -/
def cmpI (a b : Int) : Int := if a < b then -1 else if a = b then 0 else 1
set_option maxHeartbeats 1000000 in
theorem isNaN_s (a : Int) (w : World) : Calls Try.prog 78 #[.int .u64 a] w fun e w' => e = .returned (.bool false) ∧ w' = w := by
  go_enter Try.func78, Try.ntmps78
  go_wp2
  go_ret
  exact ⟨by simp, rfl⟩
set_option maxHeartbeats 1000000 in
theorem cmp_s (a b : Int) (w : World) : Calls Try.prog 41 #[.int .u64 a, .int .u64 b] w fun e w' => e = .returned (.int .i64 (cmpI a b)) ∧ w' = w := by
  unfold cmpI
  by_cases h : a < b
  · rw [if_pos h]
    go_enter Try.func41, Try.ntmps41
    go_wp2_with (go_at_call 78; refine (isNaN_s _ _).mono ?_; rintro e w' ⟨rfl, rfl⟩)
    go_ret
    exact ⟨rfl, rfl⟩
  · rw [if_neg h]
    by_cases h2 : a = b
    · subst h2
      rw [if_pos rfl]
      go_enter Try.func41, Try.ntmps41
      go_wp2_with (go_at_call 78; refine (isNaN_s _ _).mono ?_; rintro e w' ⟨rfl, rfl⟩)
      go_ret
      exact ⟨rfl, rfl⟩
    · rw [if_neg h2]
      have h3 : b < a := by omega
      go_enter Try.func41, Try.ntmps41
      go_wp2_with (go_at_call 78; refine (isNaN_s _ _).mono ?_; rintro e w' ⟨rfl, rfl⟩)
      go_ret
      exact ⟨rfl, rfl⟩
end Go.Proofs.Ytcdgkhejbdlapab
