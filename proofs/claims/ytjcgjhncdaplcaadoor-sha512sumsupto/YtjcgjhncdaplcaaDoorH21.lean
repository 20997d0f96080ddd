/- rimeref03.Compress of 128 bytes; sha512.Constants; == on eight and on eighty words; SameBytes of slices that may be nil. -/
import Derived.Test.YtjcgjhncdaplcaaDoorH20
import Derived.Test.YtjcgjhncdaplcaaDoorH11
import Derived.Test.YtjcgjhncdaplcaaDoorGivE
import Derived.Test.YtjcgjhncdaplcaaDoorH17
import Derived.Test.YtjcgjhncdaplcaaDoorH19
set_option linter.unusedVariables false
set_option linter.unusedSimpArgs false
set_option linter.unnecessarySimpa false
namespace Go.Proofs.YtjcgjhncdaplcaaDoor
open Go.RowKit

theorem u64InfoE : ∃ i, Tryd.prog.info? 52 = some i := Option.isSome_iff_exists.1 (by kernel_rfl)
theorem u64CellsE : Tryd.prog.cellsOf 52 = 1 := by kernel_rfl
/-- Are n words the same? -/
def eqw (n : Nat) (f g : Nat → Nat) : Bool := (List.range n).all fun i => ((f i : Nat) : Int) == ((g i : Nat) : Int)
theorem eqw_self (n : Nat) (f : Nat → Nat) : eqw n f f = true := by simp [eqw]
@[go_sem] theorem eq_s8 (f g : Nat → Nat) (w : World) : (Op.equalIn 10000 53 (.agg (vC 8 f)) (.agg (vC 8 g))).run Tryd.prog w = .ok (eqw 8 f g) w := by
  obtain ⟨i, hi⟩ := u64InfoE
  rw [show (10000 : Nat) = 9998 + 1 + 1 from rfl, run_equalIn_array w 9999 _ _ Tryd.underlying53 hi, u64CellsE]
  exact eqItems_ints w 9998 Tryd.underlying52 _ _ (fun i => ((f i : Nat) : Int)) (fun i => ((g i : Nat) : Int)) (List.range 8) (fun j hj => ⟨vC_get 8 f j (by simpa using hj), vC_get 8 g j (by simpa using hj)⟩)
@[go_sem] theorem eq_w80 (f g : Nat → Nat) (w : World) : (Op.equalIn 10000 65 (.agg (vC 80 f)) (.agg (vC 80 g))).run Tryd.prog w = .ok (eqw 80 f g) w := by
  obtain ⟨i, hi⟩ := u64InfoE
  rw [show (10000 : Nat) = 9998 + 1 + 1 from rfl, run_equalIn_array w 9999 _ _ Tryd.underlying65 hi, u64CellsE]
  exact eqItems_ints w 9998 Tryd.underlying52 _ _ (fun i => ((f i : Nat) : Int)) (fun i => ((g i : Nat) : Int)) (List.range 80) (fun j hj => ⟨vC_get 80 f j (by simpa using hj), vC_get 80 g j (by simpa using hj)⟩)
theorem s8Guard : Tryd.prog.eqGuardType Tryd.prog.depth 53 = false := by kernel_rfl
theorem w80Guard : Tryd.prog.eqGuardType Tryd.prog.depth 65 = false := by kernel_rfl
set_option maxHeartbeats 4000000 in
set_option maxRecDepth 100000 in
theorem Compress_r (g o c : Nat) (s b : Nat → Nat) (w : World) (hs : ∀ i, i < 8 → U (s i)) (hc : 128 ≤ c) (hb : Bs w g o 128 b) :
    Calls Tryd.prog 19 #[.agg (vC 8 s), .slice (some ⟨g, o, none⟩) 128 c] w fun e w' => e = .returned (.tuple #[.agg (vC 8 (cmp KK s b)), .int .i64 0]) ∧ Chg w w' [] := by
  have K0 := ((Chg.refl w []).alloc (.cells (vC 8 s) 53)).alloc (.cells #[.int .u64 0, .int .u64 0, .int .u64 0, .int .u64 0, .int .u64 0, .int .u64 0, .int .u64 0, .int .u64 0] 53)
  have F0 : Blk ((w.alloc (.cells (vC 8 s) 53)).alloc (.cells #[.int .u64 0, .int .u64 0, .int .u64 0, .int .u64 0, .int .u64 0, .int .u64 0, .int .u64 0, .int .u64 0] 53)) w.heap.size (vC 8 s) 53 := (Blk.new w (vC 8 s) 53).alloc (.cells #[.int .u64 0, .int .u64 0, .int .u64 0, .int .u64 0, .int .u64 0, .int .u64 0, .int .u64 0, .int .u64 0] 53)
  have F1 : Blk ((w.alloc (.cells (vC 8 s) 53)).alloc (.cells #[.int .u64 0, .int .u64 0, .int .u64 0, .int .u64 0, .int .u64 0, .int .u64 0, .int .u64 0, .int .u64 0] 53)) (w.heap.size + 1) #[.int .u64 0, .int .u64 0, .int .u64 0, .int .u64 0, .int .u64 0, .int .u64 0, .int .u64 0, .int .u64 0] 53 := by have q := Blk.new (w.alloc (.cells (vC 8 s) 53)) #[.int .u64 0, .int .u64 0, .int .u64 0, .int .u64 0, .int .u64 0, .int .u64 0, .int .u64 0, .int .u64 0] 53; simpa using q
  have HS : Hid (∀ i, i < 8 → U (s i)) := hs
  obtain ⟨cs, hcs⟩ : ∃ cs, vC 8 s = cs := ⟨_, rfl⟩
  have HCS : Hid (vC 8 s = cs) := hcs
  have HSZ : Hid (cs.size = 8) := by show cs.size = 8; rw [← hcs, vC_size]
  rw [hcs] at F0 F1 K0 ⊢
  clear hcs hs
  go_enter Tryd.func19, Tryd.ntmps19
  go_wp2_with (with_reducible refine load_b F0 53 (.tmp 2) Tryd.underlying53 ?_ ?_ ?_ ?_ ?_ ?_
               · rfl
               · rfl
               · rfl
               · rfl
               · (rw [HSZ.out]; exact S8Info))
  rw [← HCS.out] at K0 F1 ⊢
  refine (block_r s b g o c _ HS.out hc (hb.chg K0 (by simp))).mono ?_
  rintro e v1 ⟨rfl, k1⟩
  replace F1 := F1.chg k1 (by simp)
  replace K0 := K0.trans1 k1
  obtain ⟨fin, hfin⟩ : ∃ fin, cmp KK s b = fin := ⟨_, rfl⟩
  have HFIN : Hid (cmp KK s b = fin) := hfin
  rw [hfin]
  clear hfin
  clear F0 k1 HCS
  go_wp2_with (with_reducible refine store_b F1 53 (.tmp 4) (.tmp 12) (vC 8 fin) ?_ ?_ ?_ ?_ ?_ ?_ (vC_one _ _) ?_
               · rfl
               · rfl
               · rfl
               · rfl
               · (rw [vC_size]; exact S8Info)
               · (rw [vC_size]; rfl))
  exact bodyPost_ret (results_cell_tmp Tryd.results19 _ _ (w.heap.size + 1) 53 (vC 8 fin) _ _ rfl rfl (F1.setRow _) Tryd.underlying53 rfl (by rw [vC_size]; exact S8Info)) rfl ⟨by rw [HFIN.out]; rfl, K0.setRowNew (by omega) _⟩
set_option maxHeartbeats 4000000 in
set_option maxRecDepth 100000 in
theorem Constants_s (w : World) (hG : Gl w) : Calls Tryd.prog 24 #[] w fun e w' => e = .returned (.agg (vC 80 KK)) ∧ Chg w w' [] := by
  have A := Blk.new w Tryd.zeroCells65 65
  have sz : Tryd.zeroCells65.size = 80 := by kernel_rfl
  have hG' := hG.chg ((Chg.refl w []).alloc (.cells Tryd.zeroCells65 65)) (by simp) (by simp)
  obtain ⟨t0, f0, t1, f1, e0, e1⟩ := hG'
  generalize KK = kk at *
  clear e1 hG
  go_enter Tryd.func24, Tryd.ntmps24
  go_wp2_with (first
    | (with_reducible refine wpList_load_row ?_ 65 (.global 0) ?_ 0 ?_ t0 (vC 80 kk) f0 _ e0 Tryd.underlying65 ?_ ?_ ?_
       · rfl
       · rfl
       · rfl
       · rfl
       · (rw [vC_size]; exact W80Info))
    | (with_reducible refine store_b A 65 (.tmp 0) (.tmp 1) (vC 80 kk) ?_ ?_ ?_ ?_ ?_ ?_ (vC_one _ _) ?_
       · rfl
       · rfl
       · rfl
       · rfl
       · (rw [vC_size]; exact W80Info)
       · (rw [vC_size]; exact sz)))
  exact bodyPost_ret (results_cell_row Tryd.results24 _ _ w.heap.size 65 (vC 80 kk) (0, 0) _ rfl (A.setRow _) Tryd.underlying65 rfl (by rw [vC_size]; exact W80Info)) rfl ⟨rfl, ((Chg.refl w []).alloc _).setRowNew (Nat.le_refl _) _⟩
theorem SameBytes_0 (p p' : Option Addr) (c c' : Nat) (w : World) : Calls Tryd.prog 23 #[.slice p 0 c, .slice p' 0 c'] w fun e w' => e = .returned (.bool true) ∧ Chg w w' [] := by
  go_enter Tryd.func23, Tryd.ntmps23
  go_wp2_with fail
  go_loopw [5] (fun t wr => t = .int .i64 0 ∧ Chg w wr []) (fun _ _ => 0)
  case atStart => exact ⟨rfl, Chg.refl w []⟩
  case round =>
    obtain ⟨rfl, cc⟩ := hrel
    go_wp2_with fail
    go_ret
    exact ⟨rfl, cc⟩
theorem SameBytes_sl (v u : Value) (n : Nat) (f : Nat → Nat) (w : World) (hv : Sl w v n f) (hu : Sl w u n f) : Calls Tryd.prog 23 #[v, u] w fun e w' => e = .returned (.bool true) ∧ Chg w w' [] := by
  by_cases h0 : n = 0
  · subst h0
    have form : ∀ x, Sl w x 0 f → ∃ p c, x = .slice p 0 c := by
      intro x hx
      rcases hx with ⟨_, e⟩ | ⟨g, o, c, e, _⟩
      · exact ⟨_, _, e⟩
      · exact ⟨_, _, e⟩
    obtain ⟨p, c, rfl⟩ := form v hv
    obtain ⟨p', c', rfl⟩ := form u hu
    exact SameBytes_0 p p' c c' w
  rcases hv with ⟨h, _⟩ | ⟨g, o, c, rfl, hn, hc, hb⟩
  · omega
  rcases hu with ⟨h, _⟩ | ⟨g', o', c', rfl, hn', hc', hb'⟩
  · omega
  refine (SameBytes_g g o c g' o' c' n f f w (by omega) hb hb' (fun _ _ => rfl)).mono ?_
  rintro e w' ⟨rfl, m, rfl⟩
  exact ⟨rfl, (Chg.refl w []).drewN m⟩
/-- Both Compresses, of bytes of whatever length. -/
theorem compress_both (n : Nat) (s f : Nat → Nat) (hs : ∀ i, i < 8 → U (s i)) (hn : n ≤ 140737488355328) : ∃ (X : Nat → Nat) (E : Int), 0 ≤ E ∧ E < 1000 ∧ (∀ w o, Gl w → Bs w o 0 n f → Calls Tryd.prog 18 #[.agg (vC 8 s), .slice (some ⟨o, 0, none⟩) n (n + 3)] w fun e w' => e = .returned (.tuple #[.agg (vC 8 X), .int .i64 E]) ∧ Chg w w' []) ∧
    (∀ w v, Sl w v n f → Calls Tryd.prog 19 #[.agg (vC 8 s), v] w fun e w' => e = .returned (.tuple #[.agg (vC 8 X), .int .i64 E]) ∧ Chg w w' []) := by
  by_cases h : n = 128
  · subst h
    refine ⟨cmp KK s f, 0, by decide, by decide, fun w o hG hb => Compress_s o 0 131 s f w hG hs (by decide) (by decide) hb, fun w v hv => ?_⟩
    rcases hv with ⟨h, _⟩ | ⟨g, o, c, rfl, hc, _, hb⟩
    · omega
    · exact Compress_r g o c s f w hs hc hb
  · refine ⟨fun _ => 0, 3, by decide, by decide, fun w o _ _ => Compress_len _ n _ s w h, fun w v hv => ?_⟩
    have form : ∃ p c, v = .slice p n c := by
      rcases hv with ⟨rfl, e⟩ | ⟨g, o, c, e, _⟩
      · exact ⟨_, _, e⟩
      · exact ⟨_, _, e⟩
    obtain ⟨p, c, rfl⟩ := form
    exact Compress_rlen p n c s w h
/-- Both Pads, of whatever number. -/
theorem pad_both (n : Nat) : ∃ (k : Nat) (F : Nat → Nat) (E : Int), 0 ≤ E ∧ E < 1000 ∧ (∀ w, Calls Tryd.prog 20 #[.int .u64 n] w fun e w' => ∃ v, e = .returned (.tuple #[v, .int .i64 E]) ∧ Sl w' v k F ∧ Chg w w' []) ∧
    (∀ w, Calls Tryd.prog 21 #[.int .u64 n] w fun e w' => ∃ v, e = .returned (.tuple #[v, .int .i64 E]) ∧ Sl w' v k F ∧ Chg w w' []) := by
  by_cases h : n < 2305843009213693952
  · refine ⟨17 + zr n, pdf n, 0, by decide, by decide, fun w => (Pad_s n w h).mono ?_, fun w => (Pad_r n w h).mono ?_⟩
    · rintro e w' ⟨v, rfl, o, c⟩
      exact ⟨v, rfl, o.sl, c⟩
    · rintro e w' ⟨v, rfl, o, c⟩
      exact ⟨v, rfl, o.sl, c⟩
  · refine ⟨0, fun _ => 0, 1, by decide, by decide, fun w => (Pad_big n w (by omega)).mono ?_, fun w => (Pad_rbig n w (by omega)).mono ?_⟩
    · rintro e w' ⟨rfl, rfl⟩
      exact ⟨_, rfl, Or.inl ⟨rfl, rfl⟩, Chg.refl _ _⟩
    · rintro e w' ⟨rfl, rfl⟩
      exact ⟨_, rfl, Or.inl ⟨rfl, rfl⟩, Chg.refl _ _⟩
end Go.Proofs.YtjcgjhncdaplcaaDoor
